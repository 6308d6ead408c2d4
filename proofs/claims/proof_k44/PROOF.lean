import PyProof.Rows.All
import Wide.All
import OpenK.AllK
import Wide.FinOn
import HandS.ForMost
import HandS.IsInst
import HandS.Steps
import HandS.StrMore
import HandS.Codes
import HandS.More
import HandS.Strs
import HandS.Text
import HandS.TryOnly
import PyProof.AutoSeq1
import HandS.Deep
import HandS.TupLe
import HandS.ForExc
import HandS.ExcInit
import HandS.ExcField
import HandS.Iter
import HandS.Walk
import KE.KExcIs
import PySem.Challenge.RW_placedanyhow_k44_parts_of_images
set_option Elab.async false
set_option linter.all false
set_option maxRecDepth 100000
set_option maxHeartbeats 4000000
namespace Y
open PySem L2

/-! ### rules joined -/
section
variable {X : Cx}
def rAddA (K : PySem.W.Frag) : R2 := fun x y H Q => rI0 (fun i j => .int (i + j)) x y H Q ∨ (∃ i j, x = V.str i ∧ y = V.str j ∧ i.length + j.length ≤ sizeLine ∧ Q (.str (i ++ j)) H) ∨ rCat x y H Q ∨ rCatT K x y H Q
theorem op_addA : OpR X (binaryOp .Add) (rAddA X.K) := op_add.or (op_add_str.or (op_cat.or op_catT))
def rEqA (K : PySem.W.Frag) : R2 := fun x y H Q => rEq x y H Q ∨ rEqD K x y H Q
def rNeA (K : PySem.W.Frag) : R2 := fun x y H Q => rNe x y H Q ∨ rNeD K x y H Q
theorem op_eqA (hu : X.A.units + 64 < cLine) : OpR X (compareOp .Eq) (rEqA X.K) := op_eq.or (op_eqD hu)
theorem op_neA (hu : X.A.units + 64 < cLine) : OpR X (compareOp .NotEq) (rNeA X.K) := op_ne.or (op_neD hu)
def rLenA (K : PySem.W.Frag) : List V → Hp → VK → Prop := fun xs H Q => (∃ p ys, xs = [V.ref p] ∧ (SqL K H p ys ∨ SqT K H p ys) ∧ Q (.int ys.length) H) ∨ ∃ z, xs = [V.str z] ∧ z.length ≤ sizeLine ∧ Q (.int z.length) H
theorem call_lenA : CallR X (.builtin "len") (rLenA X.K) := call_len_seq.or call_len_str
def rSlA (K : PySem.W.Frag) : V → Option Int → Option Int → Hp → VK → Prop := fun x lo hi H Q => rSlL K x lo hi H Q ∨ rSlT K x lo hi H Q
theorem sl_any : SlR X (rSlA X.K) := sl_list.or sl_tup
theorem hu64 {A : Around} {k : Nat} (hr : Room k A) : A.units + 64 < cLine := by have := hr.un; omega
theorem pe_globC {x : Str} {n : Int} {pos : Pos} (hg : Gl X x) (hm : ∃ t, X.mg x = some (.int n t)) (hd : (x == ("__debug__" : Str)) = false := by decide) : PE X (.Name x pos) (tC (.int n)) := by
  obtain ⟨t, h⟩ := hm
  exact pe_glob hg h ⟨t, rfl⟩ hd
theorem pe_ty {x : Str} {n : String} {pos : Pos} (hg : Gl X x) (hm : X.mg x = none) (hv : bootBuiltins x = some (.type n)) (hn : x ≠ "__name__" := by decide) (hd : (x == ("__debug__" : Str)) = false := by decide) : PE X (.Name x pos) (tC (.ty n)) := pe_bltn hg hm hv rfl hn hd
end

section
variable {X : Cx} {K : PySem.W.Frag}
theorem op_eqK (hK : X.K = K) (hu : X.A.units + 64 < cLine) : OpR X (compareOp .Eq) (rEqA K) := hK ▸ op_eqA hu
theorem op_neK (hK : X.K = K) (hu : X.A.units + 64 < cLine) : OpR X (compareOp .NotEq) (rNeA K) := hK ▸ op_neA hu
theorem op_addK (hK : X.K = K) : OpR X (binaryOp .Add) (rAddA K) := hK ▸ op_addA
theorem ix_seqK (hK : X.K = K) : IxR X (rIx K) := hK ▸ ix_seq
theorem call_lenK (hK : X.K = K) : CallR X (.builtin "len") (rLenA K) := hK ▸ call_lenA
theorem op_inK (hK : X.K = K) : OpR X (compareOp .In) (rIn K false) := hK ▸ op_in_seq
theorem op_notInK (hK : X.K = K) : OpR X (compareOp .NotIn) (rIn K true) := hK ▸ op_notIn_seq
theorem sl_anyK (hK : X.K = K) : SlR X (rSlA K) := hK ▸ sl_any
theorem pi_listK {tg l : Expr} {tl : TE} (hK : X.K = K) (hl : PE X l tl) : PI X tg l (iList K tl) := hK ▸ pi_list hl
end
section
variable {X : Cx}
def rIsN : R2 := fun x y H Q => y = .non ∧ Q (.bl (decide (x = .non))) H
def rNotN : R2 := fun x y H Q => y = .non ∧ Q (.bl (!decide (x = .non))) H
theorem op_isN1 : OpR X (compareOp .Is) rIsN := op_isN
theorem op_notN1 : OpR X (compareOp .IsNot) rNotN := op_notN
end
section
variable {X : Cx}
def rInt : List V → Hp → VK → Prop := fun xs H Q => (∃ i, xs = [V.int i] ∧ Q (.int i) H) ∨ ∃ k, xs = [.bl k] ∧ Q (.int (if k then 1 else 0)) H
def rAbs : List V → Hp → VK → Prop := fun xs H Q => ∃ i, xs = [V.int i] ∧ Q (.int (if i < 0 then -i else i)) H
def rListOf (K : PySem.W.Frag) : List V → Hp → VK → Prop := fun xs H Q => ∃ p ys, xs = [V.ref p] ∧ (SqL K H p ys ∨ SqT K H p ys) ∧ ∀ l, H l = none → Q (.ref l) (upd H l (.lst ys))
theorem call_intA : CallR X (.type "int") rInt := call_int1
theorem call_absA : CallR X (.builtin "abs") rAbs := call_abs
theorem call_listA : CallR X (.type "list") (rListOf X.K) := call_list_of
end
/-! ### defs -/
section
variable (P : Program) (w : World) (K : PySem.W.Frag) (mg : Str → Option Value) (base : Heap)
/-- a def of the text as it stands behind the top -/
def Dn (x : Str) (st : Stmt) (ps : List Str) : Prop := ∃ f fd, Fun K x x st f fd ∧ mg x = some (.ref f) ∧ Binds K fd ps []
/-- a def that keeps its promise -/
def Cal (x : Str) (k : Nat) (ps : List Str) (sp : Sp) : Prop := ∃ f fd, FnOk P w K mg base CX0 k f fd ps sp ∧ mg x = some (.ref f) ∧ PySem.W.keepIn K (.ref f) = true ∧ Binds K fd ps []
end
section
variable {P : Program} {w : World} {K : PySem.W.Frag} {mg : Str → Option Value} {base : Heap}
theorem Dn.ok {x : Str} {st : Stmt} {N ps : List Str} {k : Nat} {sp : Sp} (D : Dn K mg x st ps) (S : FnScope N ps (defScope st)) (len : ∀ vs H Q E, sp vs H Q E → vs.length = ps.length)
    (hbody : ∀ (f : Addr) (cdv : Value) (A : Around) (outer : List Env) (s : Shared) (H : Hp) (vs : List V) (Q : VK) (E : XK), Room k (A.deeper (PyProof.Rows.envOfC x (defScope st) s.heap.objs.size f cdv)) → sp vs H Q E →
      ∃ t, PSs (cxOf CX0 P w K mg base N x (defScope st) f cdv A outer s H E).nox (defBody st) t ∧ t { nx := fun _ H' => Q .non H', rt := Q } (start N vs) H) : Cal P w K mg base x (k + 1) ps sp := by
  obtain ⟨f, fd, F, m, b⟩ := D
  exact ⟨f, fd, F.ok S len (hbody f), m, F.kp, b⟩
theorem pe_cal {X : Cx} {x : Str} {k : Nat} {ps : List Str} {sp : Sp} {e : Expr} {es : List Expr} {t : TA} {p pos : Pos} (G : Cal X.prog X.w X.K X.mg X.base x k ps sp) (hr : Room k X.A) (hg : Gl X x) (ha : PA X (e :: es) t)
    (hdb : (x == ("__debug__" : Str)) = false := by decide) (he : starEach (e :: es) X.env = (false, eval e X.env) :: starEach es X.env := by rfl) (hpl : (backTo pos (starEach es X.env)).any (·.1) = false := by rfl) : PE X (.Call (.Name x p) (e :: es) [] pos) (tCall sp [] E0 t) := by
  obtain ⟨f, fd, F, m, kp, b⟩ := G
  exact pe_call F hr hg m kp b .nil pass0 ha hdb he hpl
theorem pe_cal0 {X : Cx} {x : Str} {k : Nat} {ps : List Str} {sp : Sp} {p pos : Pos} (G : Cal X.prog X.w X.K X.mg X.base x k ps sp) (hr : Room k X.A) (hg : Gl X x)
    (hdb : (x == ("__debug__" : Str)) = false := by decide) : PE X (.Call (.Name x p) [] [] pos) (tCall sp [] E0 tNil) := by
  obtain ⟨f, fd, F, m, kp, b⟩ := G
  exact pe_call0 F hr hg m kp b .nil pass0 hdb
end

/-! ### heaps -/
/-- all that was tracked stays -/
def Ex (H H' : Hp) : Prop := ∀ a o, H a = some o → H' a = some o
/-- all tuples stay, and all that is not at M -/
structure Kp (M : List Addr) (H H' : Hp) : Prop where
  tup : ∀ a xs, H a = some (.tup xs) → H' a = some (.tup xs)
  out : ∀ a o, a ∉ M → H a = some o → H' a = some o
theorem Ex.refl (H : Hp) : Ex H H := fun _ _ h => h
theorem Ex.trans {H H1 H2 : Hp} (a : Ex H H1) (b : Ex H1 H2) : Ex H H2 := fun x o h => b x o (a x o h)
theorem Ex.same {H H' : Hp} (e : Ex H H') : L2.Same H H' := e
theorem Ex.kp {M : List Addr} {H H' : Hp} (e : Ex H H') : Kp M H H' := ⟨fun a xs h => e a _ h, fun a o _ h => e a o h⟩
theorem Kp.refl {M : List Addr} (H : Hp) : Kp M H H := (Ex.refl H).kp
theorem Kp.trans {M : List Addr} {H H1 H2 : Hp} (a : Kp M H H1) (b : Kp M H1 H2) : Kp M H H2 := ⟨fun x o h => b.tup x o (a.tup x o h), fun x o n h => b.out x o n (a.out x o n h)⟩
theorem Kp.sub {M N : List Addr} {H H' : Hp} (a : Kp M H H') (s : ∀ x, x ∈ M → x ∈ N) : Kp N H H' := ⟨a.tup, fun x o n h => a.out x o (fun z => n (s x z)) h⟩
theorem Ex.mk {H H2 : Hp} {p : Addr} {o : HO} (h : H p = none) (e : upd H p o = H2) : Ex H H2 := fun a u ha => by
  rw [← e, upd_ne (ne_of_none ha h)]
  exact ha
theorem at_new {H H2 : Hp} {p : Addr} {o : HO} (e : upd H p o = H2) : H2 p = some o := by rw [← e]; exact upd_same
theorem Kp.set {M : List Addr} {H H2 : Hp} {p : Addr} {o : HO} (hm : p ∈ M) (ht : ∀ xs, H p ≠ some (.tup xs)) (e : upd H p o = H2) : Kp M H H2 := ⟨fun a xs h => by
  rw [← e, upd_ne (fun z => ht xs (by rw [← z]; exact h))]
  exact h, fun a u n h => by
  rw [← e, upd_ne (fun z => n (by rw [z]; exact hm))]
  exact h⟩
theorem free_back {H H' : Hp} {p : Addr} (e : Ex H H') (h : H' p = none) : H p = none := by
  cases h1 : H p with
  | none => rfl
  | some o => rw [e p o h1] at h; cases h
theorem free_backK {M : List Addr} {H H' : Hp} {p : Addr} (e : Kp M H H') (hm : p ∉ M) (h : H' p = none) : H p = none := by
  cases h1 : H p with
  | none => rfl
  | some o => rw [e.out p o hm h1] at h; cases h
theorem at_ex {H H' : Hp} {p : Addr} {o : HO} (e : Ex H H') (h : H p = some o) : H' p = some o := e p o h
theorem at_kp {M : List Addr} {H H' : Hp} {p : Addr} {o : HO} (e : Kp M H H') (hm : p ∉ M) (h : H p = some o) : H' p = some o := e.out p o hm h
theorem tup_kp {M : List Addr} {H H' : Hp} {p : Addr} {xs : List V} (e : Kp M H H') (h : H p = some (.tup xs)) : H' p = some (.tup xs) := e.tup p xs h
theorem sqt {K : PySem.W.Frag} {H : Hp} {p : Addr} {xs : List V} (h : H p = some (.tup xs)) : SqT K H p xs := Or.inl (Or.inl h)
theorem sql {K : PySem.W.Frag} {H : Hp} {p : Addr} {xs : List V} (h : H p = some (.lst xs)) : SqL K H p xs := Or.inl (Or.inl h)
theorem sl1000 {n : Nat} (h : n ≤ 100000) : n ≤ sizeLine := Nat.le_trans h (by decide)
theorem sl1000' {n : Nat} (h : n < 100000) : n < sizeLine := Nat.lt_of_lt_of_le h (by decide)

theorem at0 {α : Type} {x : α} {xs : List α} : atI (x :: xs) 0 = some x := atI_nat (j := 0) rfl
theorem at_i {α : Type} {xs : List α} {n : Int} (h0 : 0 ≤ n) (h1 : n < xs.length) : ∃ v, xs[n.toNat]? = some v ∧ atI xs n = some v := by
  have hk : n.toNat < xs.length := by omega
  have e : n = ((n.toNat : Nat) : Int) := by omega
  refine ⟨xs[n.toNat], List.getElem?_eq_getElem hk, ?_⟩
  have q : atI xs ((n.toNat : Nat) : Int) = some xs[n.toNat] := atI_nat (List.getElem?_eq_getElem hk)
  rw [← e] at q
  exact q
/-! ### readings, step by step -/
def newT (Q : VK) (xs : List V) (H : Hp) : Prop := xs.length ≤ sizeLine ∧ ∀ p, H p = none → Q (.ref p) (upd H p (.tup xs))
def newL (Q : VK) (xs : List V) (H : Hp) : Prop := xs.length ≤ sizeLine ∧ ∀ p, H p = none → Q (.ref p) (upd H p (.lst xs))
theorem cut1 (xs : List V) : cutV xs (some 1) none = xs.drop 1 := by
  unfold cutV
  rw [show HT.sIx xs.length 0 (some 1) = min 1 xs.length from HT.sIx_nat xs.length 0 1, HT.sIx_none]
  cases xs with
  | nil => rfl
  | cons x r =>
    rw [show min 1 (x :: r).length = 1 by
      rw [List.length_cons]
      omega]
    show (List.take ((x :: r).length - 1) r) = r
    rw [List.length_cons, Nat.add_sub_cancel]
    exact List.take_length
section
variable {K : PySem.W.Frag} {σ : L2.St} {H : Hp} {Q : VK} {QT : Bool → Hp → Prop} {QA : List V → Hp → Prop} {QS : L2.St → Hp → Prop} {v x y : V} {i : Nat} {ta tb te : TE} {t u c : TT} {tr : TA} {r : R2} {ts us : TS} {nx bk ct : L2.St → Hp → Prop} {rt : VK} {g : TG} {gs : TGs}
theorem r_var (h : σ[i]? = some (some v)) (q : Q v H) : tVar i σ H Q := ⟨v, h, q⟩
theorem r_c (q : Q v H) : tC v σ H Q := q
theorem r_op (q : ta σ H fun x H1 => tb σ H1 fun y H2 => r x y H2 Q) : tOp r ta tb σ H Q := q
theorem r_un {r : V → Hp → VK → Prop} (q : ta σ H fun x H1 => r x H1 Q) : tUn r ta σ H Q := q
theorem r_tup (q : tr σ H fun xs H1 => newT Q xs H1) : tTup tr σ H Q := q
theorem r_lst (q : tr σ H fun xs H1 => newL Q xs H1) : tLst tr σ H Q := q
theorem q_newT {xs : List V} (hl : xs.length ≤ 100000) (q : ∀ p Hn, H p = none → Ex H Hn → Hn p = some (.tup xs) → Q (.ref p) Hn) : newT Q xs H := ⟨sl1000 hl, fun p hp => q p _ hp (Ex.mk hp rfl) upd_same⟩
theorem q_newL {xs : List V} (hl : xs.length ≤ 100000) (q : ∀ p Hn, H p = none → Ex H Hn → Hn p = some (.lst xs) → Q (.ref p) Hn) : newL Q xs H := ⟨sl1000 hl, fun p hp => q p _ hp (Ex.mk hp rfl) upd_same⟩
theorem r_cons (q : ta σ H fun x H1 => tr σ H1 fun xs H2 => QA (x :: xs) H2) : tCons ta tr σ H QA := q
theorem r_nil (q : QA [] H) : tNil σ H QA := q
theorem r_cb {r : List V → Hp → VK → Prop} (q : tr σ H fun vs H1 => r vs H1 Q) : tCB r tr σ H Q := q
theorem r_call {sp : Sp} {E : XK} (q : tr σ H fun vs H1 => sp vs H1 Q E) : tCall sp [] E tr σ H Q := by
  have e : (fun (vs : List V) (H1 : Hp) => sp (vs ++ []) H1 Q E) = fun vs H1 => sp vs H1 Q E := by
    funext vs H1
    rw [List.append_nil]
  show tr σ H (fun vs H1 => sp (vs ++ []) H1 Q E)
  rw [e]
  exact q
theorem r_ifE (q : t σ H fun c H1 => if c = true then ta σ H1 Q else tb σ H1 Q) : tIf t ta tb σ H Q := q
theorem r_sl {r : V → Option Int → Option Int → Hp → VK → Prop} {tl th : TO} (q : te σ H fun x H1 => tl σ H1 fun l H2 => th σ H2 fun u H3 => r x l u H3 Q) : tSl r te tl th σ H Q := q
theorem r_nopart {Q : Option Int → Hp → Prop} (q : Q none H) : tNoPart σ H Q := q
theorem r_part {Q : Option Int → Hp → Prop} (q : te σ H fun x H1 => ∃ i, x = .int i ∧ Q (some i) H1) : tPart te σ H Q := q
theorem q_part {i : Int} {B : Int → Prop} (q : B i) : ∃ j, V.int i = .int j ∧ B j := ⟨i, rfl, q⟩
theorem r_dget {td ty : TE} (q : td σ H fun x H1 => ty σ H1 fun y H2 => ∃ a v, x = .ref a ∧ DGet H2 a y (some v) ∧ Q v H2) : tDGet td ty σ H Q := q
theorem q_dget {p : Addr} {kvs : List (Key × V)} {z : Str} {B : V → Prop} (h : H p = some (.dK kvs)) (hl : valV kvs (Sum.inr z) = some v) (q : B v) : ∃ a v', V.ref p = .ref a ∧ DGet H a (.str z) (some v') ∧ B v' :=
  ⟨p, v, rfl, by rw [← hl]; exact DGet.k (k := Sum.inr z) h, q⟩
theorem r_andV (q : ta σ H fun x H1 => ∃ c, x = .bl c ∧ if c = true then tb σ H1 Q else Q (.bl false) H1) : tAndV ta tb σ H Q := q
theorem r_orV (q : ta σ H fun x H1 => ∃ c, x = .bl c ∧ if c = true then Q (.bl true) H1 else tb σ H1 Q) : tOrV ta tb σ H Q := q
theorem r_notV (q : ta σ H fun x H1 => ∃ c, x = .bl c ∧ Q (.bl (!c)) H1) : tNotV ta σ H Q := q
theorem r_test (q : te σ H fun x H' => ∃ k, x = .bl k ∧ QT k H') : tTest te σ H QT := q
theorem r_tB (q : te σ H fun x H1 => ∃ c, x = .bl c ∧ QT c H1) : tB te σ H QT := q
theorem q_exb {b : Bool} {B : Bool → Prop} (q : B b) : ∃ k, V.bl b = .bl k ∧ B k := ⟨b, rfl, q⟩
theorem r_and (q : t σ H fun c H1 => if c = true then u σ H1 QT else QT false H1) : tAnd t u σ H QT := q
theorem r_or (q : t σ H fun c H1 => if c = true then QT true H1 else u σ H1 QT) : tOr t u σ H QT := q
theorem r_not (q : t σ H fun c H1 => QT (!c) H1) : tNot t σ H QT := q
theorem r_seq (q : ts ⟨us ⟨nx, rt, bk, ct⟩, rt, bk, ct⟩ σ H) : tSeq ts us ⟨nx, rt, bk, ct⟩ σ H := q
theorem r_next (q : nx σ H) : tNext ⟨nx, rt, bk, ct⟩ σ H := q
theorem r_ifS (q : c σ H fun b H1 => if b = true then ts ⟨nx, rt, bk, ct⟩ σ H1 else us ⟨nx, rt, bk, ct⟩ σ H1) : tIfS c ts us ⟨nx, rt, bk, ct⟩ σ H := q
theorem r_asg (q : te σ H fun x H1 => g x σ H1 nx) : tAsg te g ⟨nx, rt, bk, ct⟩ σ H := q
theorem r_aug {ti : TIp} (h : σ[i]? = some (some v)) (q : te σ H fun y H1 => ti v y H1 fun z H2 => nx (σ.set i (some z)) H2) : tAug i te ti ⟨nx, rt, bk, ct⟩ σ H := ⟨v, h, q⟩
theorem q_ip {f : Int → Int → Int} {i j : Int} (q : Q (.int (f i j)) H) : ipI f (.int i) (.int j) H Q := ⟨i, j, rfl, rfl, q⟩
theorem r_drop (q : te σ H fun _ H1 => nx σ H1) : tDrop te ⟨nx, rt, bk, ct⟩ σ H := q
theorem r_ret (q : te σ H rt) : tRet te ⟨nx, rt, bk, ct⟩ σ H := q
theorem r_retN (q : rt .non H) : tRetN ⟨nx, rt, bk, ct⟩ σ H := q
theorem r_gname (q : QS (σ.set i (some v)) H) : gName i v σ H QS := q
theorem r_gnil (q : QS σ H) : gNil [] σ H QS := ⟨rfl, q⟩
theorem r_gcons {vs : List V} (q : g v σ H fun σ' H' => gs vs σ' H' QS) : gCons g gs (v :: vs) σ H QS := ⟨v, vs, rfl, q⟩
theorem r_gtup {p : Addr} {xs : List V} {n : Nat} (h : SqT K H p xs) (hl : xs.length = n) (q : gs xs σ H QS) : gTup K n gs (.ref p) σ H QS := ⟨p, xs, rfl, h, hl, q⟩
theorem r_gsub {to ti : TE} {s : TSet} (q : to σ H fun o H1 => ti σ H1 fun i H2 => s o i v H2 fun H3 => QS σ H3) : gSub to ti s v σ H QS := q
theorem r_bm {T : String} {r : V → List V → Hp → VK → Prop} (q : te σ H fun x H1 => tyV K T x H1 ∧ tr σ H1 fun xs H2 => r x xs H2 Q) : tBM K T r te tr σ H Q := q
theorem r_bm0 {T : String} {r : V → List V → Hp → VK → Prop} (q : te σ H fun x H1 => tyV K T x H1 ∧ r x [] H1 Q) : tBM0 K T r te σ H Q := q
theorem q_tyL {p : Addr} {xs : List V} {A : Prop} (h : H p = some (.lst xs)) (q : A) : tyV K "list" (.ref p) H ∧ A := ⟨Or.inl ⟨rfl, xs, sql h⟩, q⟩

theorem cast_q {x y : V} (e : x = y) (h : Q x H) : Q y H := e ▸ h
/-! ### operations on values -/
theorem q_addI {i j : Int} (q : Q (.int (i + j)) H) : rAddA K (.int i) (.int j) H Q := .inl ⟨i, j, rfl, rfl, q⟩
theorem q_I0 {f : Int → Int → V} {i j : Int} (q : Q (f i j) H) : rI0 f (.int i) (.int j) H Q := ⟨i, j, rfl, rfl, q⟩
theorem q_I {C : Int → Int → Prop} {f : Int → Int → V} {i j : Int} (h : C i j) (q : Q (f i j) H) : rI C f (.int i) (.int j) H Q := ⟨i, j, rfl, rfl, h, q⟩
theorem q_U {f : Int → V} {i : Int} (q : Q (f i) H) : rU f (.int i) H Q := ⟨i, rfl, q⟩
theorem q_ixT {p : Addr} {xs : List V} {i : Int} (h : SqT K H p xs) (ha : atI xs i = some v) (q : Q v H) : rIx K (.ref p) (.int i) H Q := .inr (.inl ⟨p, xs, i, v, rfl, rfl, h, ha, q⟩)
theorem q_ixL {p : Addr} {xs : List V} {i : Int} (h : SqL K H p xs) (ha : atI xs i = some v) (q : Q v H) : rIx K (.ref p) (.int i) H Q := .inl ⟨p, xs, i, v, rfl, rfl, h, ha, q⟩
theorem q_eqY (hs : scal x y = true) (he : x = y) (q : Q (.bl true) H) : rEqA K x y H Q := .inl ⟨hs, by rw [decide_eq_true he]; exact q⟩
theorem q_eqN (hs : scal x y = true) (he : ¬ x = y) (q : Q (.bl false) H) : rEqA K x y H Q := .inl ⟨hs, by rw [decide_eq_false he]; exact q⟩
theorem q_eqI {i j : Int} (h1 : i = j → Q (.bl true) H) (h2 : ¬ i = j → Q (.bl false) H) : rEqA K (.int i) (.int j) H Q := by
  by_cases e : i = j
  · exact q_eqY rfl (by rw [e]) (h1 e)
  · exact q_eqN rfl (fun z => e (V.int.inj z)) (h2 e)
theorem q_eqS {i j : Str} (h1 : i = j → Q (.bl true) H) (h2 : ¬ i = j → Q (.bl false) H) : rEqA K (.str i) (.str j) H Q := by
  by_cases e : i = j
  · exact q_eqY rfl (by rw [e]) (h1 e)
  · exact q_eqN rfl (fun z => e (V.str.inj z)) (h2 e)
theorem q_neY (hs : scal x y = true) (he : ¬ x = y) (q : Q (.bl true) H) : rNeA K x y H Q := .inl ⟨hs, by rw [decide_eq_false he]; exact q⟩
theorem q_neN (hs : scal x y = true) (he : x = y) (q : Q (.bl false) H) : rNeA K x y H Q := .inl ⟨hs, by rw [decide_eq_true he]; exact q⟩
theorem q_neI {i j : Int} (h1 : ¬ i = j → Q (.bl true) H) (h2 : i = j → Q (.bl false) H) : rNeA K (.int i) (.int j) H Q := by
  by_cases e : i = j
  · exact q_neN rfl (by rw [e]) (h2 e)
  · exact q_neY rfl (fun z => e (V.int.inj z)) (h1 e)
theorem q_neS {i j : Str} (h1 : ¬ i = j → Q (.bl true) H) (h2 : i = j → Q (.bl false) H) : rNeA K (.str i) (.str j) H Q := by
  by_cases e : i = j
  · exact q_neN rfl (by rw [e]) (h2 e)
  · exact q_neY rfl (fun z => e (V.str.inj z)) (h1 e)
theorem q_cmp {f : Int → Int → Prop} [∀ i j, Decidable (f i j)] {i j : Int} (h1 : f i j → Q (.bl true) H) (h2 : ¬ f i j → Q (.bl false) H) : rI0 (fun i j => .bl (decide (f i j))) (.int i) (.int j) H Q := by
  refine ⟨i, j, rfl, rfl, ?_⟩
  show Q (V.bl (decide (f i j))) H
  by_cases e : f i j
  · rw [decide_eq_true e]; exact h1 e
  · rw [decide_eq_false e]; exact h2 e
theorem cmulL {i j : Int} (h : -(2 ^ 64) < i ∧ i < 2 ^ 64) : CMul i j := .inl h
theorem cmulR {i j : Int} (h : -(2 ^ 64) < j ∧ j < 2 ^ 64) : CMul i j := .inr h
theorem cdiv {i j : Int} (h : 0 < j ∧ j < 1073741824) : CDiv i j := h
theorem q_neD (hn : ¬ x = y) (hs : scal x y = true) (q : Q (.bl true) H) : rNeA K x y H Q := q_neY hs hn q
theorem q_cmpY {f : Int → Int → Prop} [∀ i j, Decidable (f i j)] {i j : Int} (h : f i j) (q : Q (.bl true) H) : rI0 (fun i j => .bl (decide (f i j))) (.int i) (.int j) H Q :=
  ⟨i, j, rfl, rfl, by show Q (V.bl (decide (f i j))) H; rw [decide_eq_true h]; exact q⟩
theorem q_cmpN {f : Int → Int → Prop} [∀ i j, Decidable (f i j)] {i j : Int} (h : ¬ f i j) (q : Q (.bl false) H) : rI0 (fun i j => .bl (decide (f i j))) (.int i) (.int j) H Q :=
  ⟨i, j, rfl, rfl, by show Q (V.bl (decide (f i j))) H; rw [decide_eq_false h]; exact q⟩
theorem q_isNY (he : x = .non) (q : Q (.bl true) H) : rIsN x .non H Q := ⟨rfl, by rw [decide_eq_true he]; exact q⟩
theorem q_isNN (he : ¬ x = .non) (q : Q (.bl false) H) : rIsN x .non H Q := ⟨rfl, by rw [decide_eq_false he]; exact q⟩
theorem q_notNY (he : x = .non) (q : Q (.bl false) H) : rNotN x .non H Q := ⟨rfl, by rw [decide_eq_true he]; exact q⟩
theorem q_notNN (he : ¬ x = .non) (q : Q (.bl true) H) : rNotN x .non H Q := ⟨rfl, by rw [decide_eq_false he]; exact q⟩
theorem q_lenL {p : Addr} {xs : List V} (h : SqL K H p xs) (q : Q (.int xs.length) H) : rLenA K [.ref p] H Q := .inl ⟨p, xs, rfl, .inl h, q⟩
theorem q_lenT {p : Addr} {xs : List V} (h : SqT K H p xs) (q : Q (.int xs.length) H) : rLenA K [.ref p] H Q := .inl ⟨p, xs, rfl, .inr h, q⟩
theorem q_sl1T {p : Addr} {xs : List V} (h : SqT K H p (x :: xs)) (q : ∀ p Hn, H p = none → Ex H Hn → Hn p = some (.tup xs) → Q (.ref p) Hn) : rSlA K (.ref p) (some 1) none H Q :=
  .inr ⟨p, x :: xs, rfl, h, fun z => by
    have e : HT.sIx (x :: xs).length 0 (some 1) = min 1 (x :: xs).length := HT.sIx_nat _ 0 1
    have z1 := z.1
    rw [e, List.length_cons] at z1
    omega, fun p hp => q p _ hp (Ex.mk hp rfl) (by rw [upd_same, cut1]; rfl)⟩
theorem q_sl1L {p : Addr} {xs : List V} (h : SqL K H p (x :: xs)) (q : ∀ p Hn, H p = none → Ex H Hn → Hn p = some (.lst xs) → Q (.ref p) Hn) : rSlA K (.ref p) (some 1) none H Q :=
  .inl ⟨p, x :: xs, rfl, h, fun p hp => q p _ hp (Ex.mk hp rfl) (by rw [upd_same, cut1]; rfl)⟩
theorem q_inT {p : Addr} {xs : List V} (h : SqT K H p xs) (hx : flatV x = true) (ha : xs.all flatV = true) (q : Q (.bl (inV x xs)) H) : rIn K false x (.ref p) H Q := ⟨p, xs, rfl, .inr h, hx, ha, q⟩
theorem q_inTY {p : Addr} {xs : List V} (h : SqT K H p xs) (hx : (flatV x && xs.all flatV && inV x xs) = true) (q : Q (.bl true) H) : rIn K false x (.ref p) H Q := by
  simp only [Bool.and_eq_true] at hx
  exact ⟨p, xs, rfl, .inr h, hx.1.1, hx.1.2, by rw [if_neg Bool.false_ne_true, hx.2]; exact q⟩
theorem q_inTN {p : Addr} {xs : List V} (h : SqT K H p xs) (hx : (flatV x && xs.all flatV && !inV x xs) = true) (q : Q (.bl false) H) : rIn K false x (.ref p) H Q := by
  simp only [Bool.and_eq_true, Bool.not_eq_true'] at hx
  exact ⟨p, xs, rfl, .inr h, hx.1.1, hx.1.2, by rw [if_neg Bool.false_ne_true, hx.2]; exact q⟩
theorem q_inLY {p : Addr} {xs : List V} (h : SqL K H p xs) (hx : (flatV x && xs.all flatV && inV x xs) = true) (q : Q (.bl true) H) : rIn K false x (.ref p) H Q := by
  simp only [Bool.and_eq_true] at hx
  exact ⟨p, xs, rfl, .inl h, hx.1.1, hx.1.2, by rw [if_neg Bool.false_ne_true, hx.2]; exact q⟩
theorem q_inLN {p : Addr} {xs : List V} (h : SqL K H p xs) (hx : (flatV x && xs.all flatV && !inV x xs) = true) (q : Q (.bl false) H) : rIn K false x (.ref p) H Q := by
  simp only [Bool.and_eq_true, Bool.not_eq_true'] at hx
  exact ⟨p, xs, rfl, .inl h, hx.1.1, hx.1.2, by rw [if_neg Bool.false_ne_true, hx.2]; exact q⟩
theorem q_isi {t : Value} {T : String} {b : Bool} (ty : TyOf K H x t) (e : PySem.W.kitOne K t (.type T) = some b) (q : Q (.bl b) H) : rIsi K [x, .ty T] H Q := ⟨x, .ty T, t, .type T, b, rfl, .ty T, .base ty, e, q⟩
theorem q_isiBI {i : Int} (q : Q (.bl false) H) : rIsi K [.int i, .ty "bool"] H Q := q_isi (.int i) (kit_ty (by decide +kernel)) q
theorem q_isiBN (q : Q (.bl false) H) : rIsi K [.non, .ty "bool"] H Q := q_isi .non (kit_ty (by decide +kernel)) q
def dispK (Q : VK) (p : Addr) (ps : List (V × V)) (H : Hp) : Prop := H p = some (.dK []) ∧ ∃ kvs : List (Key × V), ps = kvs.map (fun kv => (kV kv.1, kv.2)) ∧ kvs.length ≤ 15 ∧ Q (.ref p) (upd H p (.dK (mergeK [] kvs)))
theorem r_disp {trs : List (TE × TE)} (q : ∀ p Hn, H p = none → Ex H Hn → Hn p = some (.dK []) → tPairs trs σ Hn fun ps H2 => dispK Q p ps H2) : tDisp trs σ H Q := fun p hp => q p _ hp (Ex.mk hp rfl) upd_same
theorem r_pnil {QP : List (V × V) → Hp → Prop} (q : QP [] H) : tPairs [] σ H QP := q
theorem r_pcons {QP : List (V × V) → Hp → Prop} {tk tv : TE} {r : List (TE × TE)} (q : tk σ H fun x H1 => tv σ H1 fun y H2 => tPairs r σ H2 fun ps H3 => QP ((x, y) :: ps) H3) : tPairs ((tk, tv) :: r) σ H QP := q
theorem merge_nd {kvs : List (Key × V)} (h : (kvs.map (·.1)).Nodup) : mergeK [] kvs = kvs := by
  have key : ∀ (more acc : List (Key × V)), ((acc ++ more).map (·.1)).Nodup → mergeK acc more = acc ++ more := by
    intro more
    induction more with
    | nil => intro acc _; rw [List.append_nil]; rfl
    | cons p r ih =>
      intro acc h
      have hp : valV acc p.1 = none := by
        cases hv : valV acc p.1 with
        | none => rfl
        | some x =>
          exfalso
          have hm := valV_in hv
          rw [List.map_append, List.nodup_append] at h
          exact h.2.2 _ hm _ (by simp) rfl
      show mergeK (putK acc p.1 p.2) r = acc ++ p :: r
      rw [putK_new _ hp, ih _ (by rw [List.append_assoc]; exact h), List.append_assoc]
      rfl
  exact key kvs [] h
theorem q_disp {p : Addr} {ps : List (V × V)} (kvs : List (Key × V)) (h : H p = some (.dK [])) (e : ps = kvs.map (fun kv => (kV kv.1, kv.2))) (nd : (kvs.map (·.1)).Nodup) (hl : kvs.length ≤ 15)
    (q : ∀ Hn, Kp [p] H Hn → Hn p = some (.dK kvs) → Q (.ref p) Hn) : dispK Q p ps H := ⟨h, kvs, e, hl, by
  rw [merge_nd nd]
  exact q _ (Kp.set (List.mem_singleton.mpr rfl) (fun xs z => by rw [h] at z; cases z) rfl) upd_same⟩
theorem q_inL {p : Addr} {xs : List V} (h : SqL K H p xs) (hx : flatV x = true) (ha : xs.all flatV = true) (q : Q (.bl (inV x xs)) H) : rIn K false x (.ref p) H Q := ⟨p, xs, rfl, .inl h, hx, ha, q⟩
theorem r_iL {tl : TE} {R : It → Hp → Prop} (q : tl σ H fun x H1 => ∃ a, x = .ref a ∧ (∃ xs, SqL K H1 a xs) ∧ R (Itl K a) H1) : iList K tl σ H R := q
theorem q_iL {a : Addr} {xs : List V} {B : Addr → Prop} (h : SqL K H a xs) (q : B a) : ∃ b, V.ref a = .ref b ∧ (∃ xs, SqL K H b xs) ∧ B b := ⟨a, rfl, ⟨xs, h⟩, q⟩
theorem r_iT {tl : TE} {R : It → Hp → Prop} (q : tl σ H fun x H1 => ∃ a, x = .ref a ∧ (∃ xs, SqT K H1 a xs) ∧ R (Itt K a) H1) : iTup K tl σ H R := q
theorem q_iT {a : Addr} {xs : List V} {B : Addr → Prop} (h : SqT K H a xs) (q : B a) : ∃ b, V.ref a = .ref b ∧ (∃ xs, SqT K H b xs) ∧ B b := ⟨a, rfl, ⟨xs, h⟩, q⟩
theorem r_rng1 {R : It → Hp → Prop} (q : tr σ H fun vs H1 => ∃ j : Int, vs = [.int j] ∧ -(2 ^ 62) ≤ j ∧ j < 2 ^ 62 ∧ R (Itr 0 j.toNat) H1) : iRng1 tr σ H R := q
theorem q_rng1 {j : Int} {B : Int → Prop} (h : 0 ≤ j ∧ j ≤ 1000000) (q : B j) : ∃ i : Int, [V.int j] = [.int i] ∧ -(2 ^ 62) ≤ i ∧ i < 2 ^ 62 ∧ B i := ⟨j, rfl, by omega, by omega, q⟩
theorem r_rng2 {R : It → Hp → Prop} (q : tr σ H fun vs H1 => ∃ i j : Int, vs = [.int i, .int j] ∧ (-(2 ^ 62) ≤ i ∧ i < 2 ^ 62 ∧ -(2 ^ 62) ≤ j ∧ j < 2 ^ 62) ∧ R (Itr i (j - i).toNat) H1) : iRng2 tr σ H R := q
theorem q_rng2 {i j : Int} {B : Int → Int → Prop} (h : 0 ≤ i ∧ i ≤ 1000000 ∧ 0 ≤ j ∧ j ≤ 1000000) (q : B i j) : ∃ a b : Int, [V.int i, V.int j] = [.int a, .int b] ∧ (-(2 ^ 62) ≤ a ∧ a < 2 ^ 62 ∧ -(2 ^ 62) ≤ b ∧ b < 2 ^ 62) ∧ B a b :=
  ⟨i, j, rfl, ⟨by omega, by omega, by omega, by omega⟩, q⟩
theorem r_lc {wi : TI} {vs : List Nat} (q : wi σ H fun J H1 => ∀ D, H1 D = none → ∃ W : Nat → Nat → Hp → Prop, (∃ m, W 0 m (upd H1 D (.lst []))) ∧ ∀ i m H, W i m H →
  (J.stop i H ∧ Q (.ref D) H) ∨ (J.go i H ∧ ∃ Nx : Hp → Prop, (∀ H', Nx H' → ∃ m', m' < m ∧ W (i + 1) m' H') ∧ ∀ x H', J.yld i H x H' → g x (wipe σ vs) H' fun σ2 H2 => wipe σ2 vs = wipe σ vs ∧ t σ2 H2 fun b H3 =>
    if b = true then te σ2 H3 fun y H4 => ∃ acc, H4 D = some (.lst acc) ∧ acc.length < sizeLine ∧ Nx (upd H4 D (.lst (acc ++ [y]))) else Nx H3)) : tLc wi g t te vs σ H Q := q
theorem r_yes (q : QT true H) : tYes σ H QT := q
theorem r_for {wi : TI} (q : wi σ H fun J H1 => ∃ W : Nat → Nat → L2.St → Hp → Prop, (∃ m, W 0 m σ H1) ∧ ∀ i m σ H, W i m σ H →
  (J.stop i H ∧ nx σ H) ∨ (J.go i H ∧ ∃ N : L2.St → Hp → Prop, (∀ σ' H', N σ' H' → ∃ m', m' < m ∧ W (i + 1) m' σ' H') ∧ ∀ x H', J.yld i H x H' → g x σ H' fun σ2 H2 => ts ⟨N, rt, nx, N⟩ σ2 H2)) : tFor wi g ts ⟨nx, rt, bk, ct⟩ σ H := q
/-- the loops' words -/
theorem w_list {a : Addr} {xs : List V} (Pv : Nat → L2.St → Hp → Prop) (h0 : Pv 0 σ H) (hl : ∀ i σ H, i ≤ xs.length → Pv i σ H → SqL K H a xs)
    (hs : ∀ i x σ H, xs[i]? = some x → Pv i σ H → g x σ H fun σ2 H2 => ts ⟨Pv (i + 1), rt, nx, Pv (i + 1)⟩ σ2 H2) (hd : ∀ σ H, Pv xs.length σ H → nx σ H) :
    ∃ W : Nat → Nat → L2.St → Hp → Prop, (∃ m, W 0 m σ H) ∧ ∀ i m σ H, W i m σ H →
      ((Itl K a).stop i H ∧ nx σ H) ∨ ((Itl K a).go i H ∧ ∃ N : L2.St → Hp → Prop, (∀ σ' H', N σ' H' → ∃ m', m' < m ∧ W (i + 1) m' σ' H') ∧ ∀ x H', (Itl K a).yld i H x H' → g x σ H' fun σ2 H2 => ts ⟨N, rt, nx, N⟩ σ2 H2) :=
  for_list (D := ⟨nx, rt, nx, nx⟩) Pv h0 hl hs hd
theorem w_tup {a : Addr} {xs : List V} (Pv : Nat → L2.St → Hp → Prop) (h0 : Pv 0 σ H) (hl : ∀ i σ H, i ≤ xs.length → Pv i σ H → SqT K H a xs)
    (hs : ∀ i x σ H, xs[i]? = some x → Pv i σ H → g x σ H fun σ2 H2 => ts ⟨Pv (i + 1), rt, nx, Pv (i + 1)⟩ σ2 H2) (hd : ∀ σ H, Pv xs.length σ H → nx σ H) :
    ∃ W : Nat → Nat → L2.St → Hp → Prop, (∃ m, W 0 m σ H) ∧ ∀ i m σ H, W i m σ H →
      ((Itt K a).stop i H ∧ nx σ H) ∨ ((Itt K a).go i H ∧ ∃ N : L2.St → Hp → Prop, (∀ σ' H', N σ' H' → ∃ m', m' < m ∧ W (i + 1) m' σ' H') ∧ ∀ x H', (Itt K a).yld i H x H' → g x σ H' fun σ2 H2 => ts ⟨N, rt, nx, N⟩ σ2 H2) :=
  for_tup (D := ⟨nx, rt, nx, nx⟩) Pv h0 hl hs hd
theorem w_rng {lo : Int} {n : Nat} (Pv : Nat → L2.St → Hp → Prop) (h0 : Pv 0 σ H)
    (hs : ∀ i σ H, i < n → Pv i σ H → g (.int (lo + i)) σ H fun σ2 H2 => ts ⟨Pv (i + 1), rt, nx, Pv (i + 1)⟩ σ2 H2) (hd : ∀ σ H, Pv n σ H → nx σ H) :
    ∃ W : Nat → Nat → L2.St → Hp → Prop, (∃ m, W 0 m σ H) ∧ ∀ i m σ H, W i m σ H →
      ((Itr lo n).stop i H ∧ nx σ H) ∨ ((Itr lo n).go i H ∧ ∃ N : L2.St → Hp → Prop, (∀ σ' H', N σ' H' → ∃ m', m' < m ∧ W (i + 1) m' σ' H') ∧ ∀ x H', (Itr lo n).yld i H x H' → g x σ H' fun σ2 H2 => ts ⟨N, rt, nx, N⟩ σ2 H2) :=
  for_range (D := ⟨nx, rt, nx, nx⟩) Pv h0 hs hd
theorem r_iS {tl : TE} {R : It → Hp → Prop} (q : tl σ H fun v H1 => ∃ x, v = .str x ∧ R (Its x) H1) : iStr tl σ H R := q
theorem q_iS {z : Str} {B : Str → Prop} (q : B z) : ∃ x, V.str z = .str x ∧ B x := ⟨z, rfl, q⟩
theorem w_str {x : Str} (Pv : Nat → L2.St → Hp → Prop) (h0 : Pv 0 σ H)
    (hs : ∀ i c σ H, x.cps.toList[i]? = some c → Pv i σ H → g (.str ⟨#[c]⟩) σ H fun σ2 H2 => ts ⟨Pv (i + 1), rt, nx, Pv (i + 1)⟩ σ2 H2) (hd : ∀ σ H, Pv x.cps.toList.length σ H → nx σ H) :
    ∃ W : Nat → Nat → L2.St → Hp → Prop, (∃ m, W 0 m σ H) ∧ ∀ i m σ H, W i m σ H →
      ((Its x).stop i H ∧ nx σ H) ∨ ((Its x).go i H ∧ ∃ N : L2.St → Hp → Prop, (∀ σ' H', N σ' H' → ∃ m', m' < m ∧ W (i + 1) m' σ' H') ∧ ∀ v H', (Its x).yld i H v H' → g v σ H' fun σ2 H2 => ts ⟨N, rt, nx, N⟩ σ2 H2) := by
  have hz : x.cps.toList.length = x.cps.size := Array.length_toList
  refine ⟨fun i m σ H => m = x.cps.size - i ∧ i ≤ x.cps.size ∧ Pv i σ H, ⟨x.cps.size, by simp, Nat.zero_le _, h0⟩, ?_⟩
  rintro i m σ H ⟨rfl, hi, p⟩
  by_cases hlt : i < x.cps.size
  · refine .inr ⟨hlt, Pv (i + 1), fun σ' H' p' => ⟨x.cps.size - (i + 1), by omega, rfl, hlt, p'⟩, fun v H' y => ?_⟩
    obtain ⟨e, c, hc, ev⟩ := y
    subst e
    subst ev
    exact hs i c _ _ (by rw [Array.getElem?_toList]; exact hc) p
  · have e : i = x.cps.toList.length := by omega
    subst e
    exact .inl ⟨by show x.cps.size ≤ _; omega, hd _ _ p⟩
theorem w_while (W : Nat → L2.St → Hp → Prop) (m0 : Nat) (h0 : W m0 σ H)
    (hs : ∀ m σ' H', W m σ' H' → c σ' H' fun b H1 => if b = true then ts ⟨fun σ2 H2 => ∃ m', m' < m ∧ W m' σ2 H2, rt, nx, fun σ2 H2 => ∃ m', m' < m ∧ W m' σ2 H2⟩ σ' H1 else nx σ' H1)
    (mono : ∀ σ H Q Q', (∀ b H1, Q b H1 → Q' b H1) → c σ H Q → c σ H Q') : tWhile c ts ⟨nx, rt, bk, ct⟩ σ H := by
  refine ⟨W, ⟨m0, h0⟩, fun m σ' H' hw => mono σ' H' _ _ (fun b H1 q => ?_) (hs m σ' H' hw)⟩
  cases b with
  | true => exact ⟨_, fun _ _ n => n, q⟩
  | false => exact q
theorem q_setL {p : Addr} {xs : List V} {k : Int} {j : Nat} {QH : Hp → Prop} (h : H p = some (.lst xs)) (hj : ixN xs.length k = some j) (q : QH (upd H p (.lst (xs.set j v)))) : rSetL (.ref p) (.int k) v H QH := ⟨p, xs, k, j, rfl, rfl, h, hj, q⟩
theorem q_append {l : Addr} {xs : List V} (h : H l = some (.lst xs)) (hz : xs.length < 100000) (q : Q .non (upd H l (.lst (xs ++ [y])))) : rAppend (.ref l) [y] H Q := ⟨l, xs, y, rfl, rfl, h, sl1000' hz, q⟩
theorem q_pop0 {l : Addr} {xs : List V} (h : H l = some (.lst (x :: xs))) (q : Q x (upd H l (.lst xs))) : rPopAt (.ref l) [.int 0] H Q := ⟨l, x :: xs, 0, 0, x, rfl, rfl, h, by decide, by decide, by simp [seqIndex?], rfl, q⟩
theorem q_abs {i : Int} (q : Q (.int (if i < 0 then -i else i)) H) : rAbs [.int i] H Q := ⟨i, rfl, q⟩
theorem q_int {i : Int} (q : Q (.int i) H) : rInt [.int i] H Q := .inl ⟨i, rfl, q⟩
theorem q_intT (q : Q (.int 1) H) : rInt [.bl true] H Q := .inr ⟨true, rfl, q⟩
theorem q_intF (q : Q (.int 0) H) : rInt [.bl false] H Q := .inr ⟨false, rfl, q⟩
theorem q_intNT (q : Q (.int 1) H) : rInt [.bl (!false)] H Q := .inr ⟨true, rfl, q⟩
theorem q_intNF (q : Q (.int 0) H) : rInt [.bl (!true)] H Q := .inr ⟨false, rfl, q⟩
theorem iteNT {A B : Prop} (h : A) : if (!false) = true then A else B := by simpa using h
theorem iteNF {A B : Prop} (h : B) : if (!true) = true then A else B := by simpa using h
theorem q_listL {p : Addr} {ys : List V} (h : SqL K H p ys) (q : ∀ p Hn, H p = none → Ex H Hn → Hn p = some (.lst ys) → Q (.ref p) Hn) : rListOf K [.ref p] H Q := ⟨p, ys, rfl, .inl h, fun p hp => q p _ hp (Ex.mk hp rfl) upd_same⟩
theorem q_listT {p : Addr} {ys : List V} (h : SqT K H p ys) (q : ∀ p Hn, H p = none → Ex H Hn → Hn p = some (.lst ys) → Q (.ref p) Hn) : rListOf K [.ref p] H Q := ⟨p, ys, rfl, .inr h, fun p hp => q p _ hp (Ex.mk hp rfl) upd_same⟩
end

/-! ### tests that hand on more where more is wished (for while) -/
section
variable {K : PySem.W.Frag}
def MoE (t : TE) : Prop := ∀ σ H (Q Q' : VK), (∀ v H1, Q v H1 → Q' v H1) → t σ H Q → t σ H Q'
def MoT (t : TT) : Prop := ∀ σ H (Q Q' : Bool → Hp → Prop), (∀ v H1, Q v H1 → Q' v H1) → t σ H Q → t σ H Q'
def MoA (t : TA) : Prop := ∀ σ H (Q Q' : List V → Hp → Prop), (∀ v H1, Q v H1 → Q' v H1) → t σ H Q → t σ H Q'
def MoR (r : R2) : Prop := ∀ x y H (Q Q' : VK), (∀ v H1, Q v H1 → Q' v H1) → r x y H Q → r x y H Q'
def MoC (r : List V → Hp → VK → Prop) : Prop := ∀ x H (Q Q' : VK), (∀ v H1, Q v H1 → Q' v H1) → r x H Q → r x H Q'
theorem mo_var {i : Nat} : MoE (tVar i) := fun _ _ _ _ k ⟨v, h, q⟩ => ⟨v, h, k _ _ q⟩
theorem mo_c {v : V} : MoE (tC v) := fun _ _ _ _ k q => k _ _ q
theorem mo_op {r : R2} {a b : TE} (hr : MoR r) (ha : MoE a) (hb : MoE b) : MoE (tOp r a b) := fun σ H Q Q' k h => ha _ _ _ _ (fun x H1 q => hb _ _ _ _ (fun y H2 q => hr _ _ _ _ _ k q) q) h
theorem mo_test {a : TE} (ha : MoE a) : MoT (tTest a) := fun σ H Q Q' k h => ha _ _ _ _ (fun x H1 ⟨c, e, q⟩ => ⟨c, e, k _ _ q⟩) h
theorem mo_and {a b : TT} (ha : MoT a) (hb : MoT b) : MoT (tAnd a b) := fun σ H Q Q' k h => ha _ _ _ _ (fun c H1 q => by
  cases c
  · exact k _ _ q
  · exact hb _ _ _ _ k q) h
theorem mo_or {a b : TT} (ha : MoT a) (hb : MoT b) : MoT (tOr a b) := fun σ H Q Q' k h => ha _ _ _ _ (fun c H1 q => by
  cases c
  · exact hb _ _ _ _ k q
  · exact k _ _ q) h
theorem mo_not {a : TT} (ha : MoT a) : MoT (tNot a) := fun σ H Q Q' k h => ha _ _ _ _ (fun c H1 q => k _ _ q) h
theorem mo_nil : MoA tNil := fun _ _ _ _ k q => k _ _ q
theorem mo_cons {a : TE} {r : TA} (ha : MoE a) (hr : MoA r) : MoA (tCons a r) := fun σ H Q Q' k h => ha _ _ _ _ (fun x H1 q => hr _ _ _ _ (fun xs H2 q => k _ _ q) q) h
theorem mo_cb {r : List V → Hp → VK → Prop} {a : TA} (hr : MoC r) (ha : MoA a) : MoE (tCB r a) := fun σ H Q Q' k h => ha _ _ _ _ (fun x H1 q => hr _ _ _ _ k q) h
theorem mo_I0 {f : Int → Int → V} : MoR (rI0 f) := fun _ _ _ _ _ k ⟨i, j, a, b, q⟩ => ⟨i, j, a, b, k _ _ q⟩
theorem mo_I {C : Int → Int → Prop} {f : Int → Int → V} : MoR (rI C f) := fun _ _ _ _ _ k ⟨i, j, a, b, c, q⟩ => ⟨i, j, a, b, c, k _ _ q⟩
theorem mo_eqA : MoR (rEqA K) := fun _ _ _ _ _ k h => h.elim (fun ⟨a, q⟩ => .inl ⟨a, k _ _ q⟩) fun ⟨d, e, a, b, c, f, q⟩ => .inr ⟨d, e, a, b, c, f, k _ _ q⟩
theorem mo_neA : MoR (rNeA K) := fun _ _ _ _ _ k h => h.elim (fun ⟨a, q⟩ => .inl ⟨a, k _ _ q⟩) fun ⟨d, e, a, b, c, f, q⟩ => .inr ⟨d, e, a, b, c, f, k _ _ q⟩
theorem mo_ix : MoR (rIx K) := fun _ _ _ _ _ k h => by
  rcases h with ⟨p, xs, i, v, a, b, c, d, q⟩ | ⟨p, xs, i, v, a, b, c, d, q⟩ | ⟨z, i, c, a, b, d, e, q⟩
  · exact .inl ⟨p, xs, i, v, a, b, c, d, k _ _ q⟩
  · exact .inr (.inl ⟨p, xs, i, v, a, b, c, d, k _ _ q⟩)
  · exact .inr (.inr ⟨z, i, c, a, b, d, e, k _ _ q⟩)
theorem mo_lenA : MoC (rLenA K) := fun _ _ _ _ k h => by
  rcases h with ⟨p, ys, a, b, q⟩ | ⟨z, a, b, q⟩
  · exact .inl ⟨p, ys, a, b, k _ _ q⟩
  · exact .inr ⟨z, a, b, k _ _ q⟩
theorem ix0 {n : Nat} : ixN (n + 1) 0 = some 0 := by
  unfold ixN
  rw [if_pos (by decide), if_pos (by omega)]
  rfl
end
end Y
namespace Y
open PySem L2
def topS (i : Nat) : Stmt := PySem.Challenge.pw_placedanyhow_k44_parts_of_images.main.body.getD i (.Pass ⟨0, 0, 0, 0⟩)
local macro_rules | `(tactic| walk_at "lift") => `(tactic| first
  | assumption
  | (refine at_ex (by assumption) ?_; walk_at "lift")
  | (refine tup_kp (by assumption) ?_; walk_at "lift")
  | (refine at_kp (by assumption) (by walk_at "nin") ?_; walk_at "lift"))
local macro_rules | `(tactic| walk_at "sq") => `(tactic| first
  | assumption
  | (refine sqt ?_; walk_at "lift")
  | (refine sql ?_; walk_at "lift"))
local macro_rules | `(tactic| walk_at "ar") => `(tactic| first
  | assumption
  | omega
  | (refine And.intro ?_ ?_ <;> omega)
  | (refine cdiv ⟨?_, ?_⟩ <;> omega)
  | (refine cmulL ⟨?_, ?_⟩ <;> omega)
  | (refine cmulR ⟨?_, ?_⟩ <;> omega)
  | decide)
set_option hygiene false in
local macro_rules | `(tactic| walk_at "i_disp") => `(tactic| intro dp Hn hdp ke hdn)
set_option hygiene false in
local macro_rules | `(tactic| walk_at "i_new") => `(tactic| intro p Hn hp ke hn)
local macro_rules | `(tactic| walk_at "len") => `(tactic| first | decide | (simp only [List.length_cons, List.length_nil, List.length_append, List.length_map]; omega))
local macro_rules | `(tactic| walk_at "new") => `(tactic| first
  | ((with_reducible refine q_newT ?h ?_); (case h => walk_at "len"); walk_at "i_new")
  | ((with_reducible refine q_newL ?h ?_); (case h => walk_at "len"); walk_at "i_new")
  | ((with_reducible refine q_sl1T (x := ?x) (xs := ?xs) ?h ?_); (case h => walk_at "sq"); walk_at "i_new")
  | ((with_reducible refine q_sl1L (x := ?x) (xs := ?xs) ?h ?_); (case h => walk_at "sq"); walk_at "i_new")
  | ((with_reducible refine q_listL (ys := ?ys) ?h ?_); (case h => walk_at "sq"); walk_at "i_new")
  | ((with_reducible refine q_listT (ys := ?ys) ?h ?_); (case h => walk_at "sq"); walk_at "i_new"))
local macro_rules | `(tactic| walk_at "arx") => `(tactic| first
  | omega
  | decide
  | (simp only [List.length_cons, List.length_nil, List.length_map]; omega))
set_option hygiene false in
local macro_rules | `(tactic| walk_at "q") => `(tactic| exact q)
local macro_rules | `(tactic| walk_at "st") => `(tactic| first
  | with_reducible refine r_seq ?_
  | with_reducible refine r_ifS ?_
  | with_reducible refine r_asg ?_
  | with_reducible refine r_ret ?_
  | with_reducible refine r_retN ?_
  | with_reducible refine r_next ?_
  | with_reducible refine r_drop ?_
  | ((with_reducible refine r_aug (v := ?v) ?h ?_); (case h => exact rfl))
  | with_reducible refine q_ip ?_
  | ((with_reducible refine r_var (v := ?v) ?h ?_); (case h => exact rfl))
  | with_reducible refine r_c ?_
  | with_reducible refine r_op ?_
  | with_reducible refine r_un ?_
  | with_reducible refine r_test ?_
  | with_reducible refine r_tB ?_
  | with_reducible refine q_exb ?_
  | with_reducible refine r_and ?_
  | with_reducible refine r_or ?_
  | with_reducible refine r_not ?_
  | with_reducible refine r_andV ?_
  | with_reducible refine r_orV ?_
  | with_reducible refine r_notV ?_
  | with_reducible refine r_ifE ?_
  | with_reducible refine iteT ?_
  | with_reducible refine iteF ?_
  | with_reducible refine iteNT ?_
  | with_reducible refine iteNF ?_
  | with_reducible refine q_intNT ?_
  | with_reducible refine q_intNF ?_
  | with_reducible refine r_cons ?_
  | with_reducible refine r_nil ?_
  | with_reducible refine r_cb ?_
  | with_reducible refine r_call ?_
  | with_reducible refine r_tup ?_
  | with_reducible refine r_lst ?_
  | with_reducible refine r_gname ?_
  | with_reducible refine r_gnil ?_
  | with_reducible refine r_gcons ?_
  | with_reducible refine r_gsub ?_
  | ((with_reducible refine r_gtup (xs := ?xs) ?h ?l ?_); (case h => walk_at "sq"); (case l => rfl))
  | with_reducible refine r_sl ?_
  | with_reducible refine r_part ?_
  | with_reducible refine r_nopart ?_
  | with_reducible refine q_part ?_
  | with_reducible refine r_dget ?_
  | ((with_reducible refine q_dget (kvs := ?kvs) (v := ?v) ?h ?l ?_); (case h => walk_at "lift"); (case l => first | assumption | rfl))
  | with_reducible refine r_bm ?_
  | with_reducible refine r_bm0 ?_
  | with_reducible refine q_addI ?_
  | ((with_reducible refine q_eqY ?s ?e ?_); (case e => first | exact rfl | decide +kernel); (case s => rfl))
  | ((with_reducible refine q_eqN ?s ?e ?_); (case e => decide +kernel); (case s => rfl))
  | ((with_reducible refine q_eqN ?s ?e ?_); (case e => walk_at "ne"); (case s => rfl))
  | (with_reducible refine q_eqI (fun c => ?_) (fun c => ?_))
  | (with_reducible refine q_eqS (fun c => ?_) (fun c => ?_))
  | ((with_reducible refine q_neY ?s ?e ?_); (case e => decide +kernel); (case s => rfl))
  | ((with_reducible refine q_neN ?s ?e ?_); (case e => first | exact rfl | decide +kernel); (case s => rfl))
  | (with_reducible refine q_neI (fun c => ?_) (fun c => ?_))
  | (with_reducible refine q_neS (fun c => ?_) (fun c => ?_))
  | ((with_reducible refine q_cmpY ?h ?_); (case h => walk_at "arx"))
  | ((with_reducible refine q_cmpN ?h ?_); (case h => walk_at "arx"))
  | (with_reducible refine q_cmp (fun c => ?_) (fun c => ?_))
  | ((with_reducible refine q_I ?c ?_); (case c => walk_at "ar"))
  | with_reducible refine q_I0 ?_
  | with_reducible refine q_U ?_
  | ((with_reducible refine q_ixT (xs := ?xs) (v := ?v) ?h ?a ?_); (case h => walk_at "sq"); (case a => exact rfl))
  | ((with_reducible refine q_lenL (xs := ?xs) ?h ?_); (case h => walk_at "sq"))
  | ((with_reducible refine q_lenT (xs := ?xs) ?h ?_); (case h => walk_at "sq"))
  | with_reducible refine q_isiBI ?_
  | with_reducible refine q_isiBN ?_
  | ((with_reducible refine q_inTY (xs := ?xs) ?h ?e ?_); (case h => walk_at "sq"); (case e => first | decide +kernel | rfl))
  | ((with_reducible refine q_inTN (xs := ?xs) ?h ?e ?_); (case h => walk_at "sq"); (case e => first | decide +kernel | rfl))
  | ((with_reducible refine q_inLY (xs := ?xs) ?h ?e ?_); (case h => walk_at "sq"); (case e => first | decide +kernel | rfl))
  | ((with_reducible refine q_inLN (xs := ?xs) ?h ?e ?_); (case h => walk_at "sq"); (case e => first | decide +kernel | rfl))
  | with_reducible refine q_int ?_
  | with_reducible refine q_intT ?_
  | with_reducible refine q_intF ?_
  | with_reducible refine q_abs ?_
  | with_reducible refine r_yes ?_
  | with_reducible refine r_lc ?_
  | (with_reducible refine r_disp ?_; walk_at "i_disp")
  | with_reducible refine r_pcons ?_
  | with_reducible refine r_pnil ?_
  | with_reducible refine r_for ?_
  | with_reducible refine r_iL ?_
  | with_reducible refine r_iT ?_
  | with_reducible refine r_iS ?_
  | with_reducible refine q_iS ?_
  | with_reducible refine r_rng1 ?_
  | with_reducible refine r_rng2 ?_
  | ((with_reducible refine q_iL (xs := ?xs) ?h ?_); (case h => walk_at "sq"))
  | ((with_reducible refine q_iT (xs := ?xs) ?h ?_); (case h => walk_at "sq"))
  | ((with_reducible refine q_rng1 ?h ?_); (case h => walk_at "ar"))
  | ((with_reducible refine q_rng2 ?h ?_); (case h => refine And.intro ?_ (And.intro ?_ (And.intro ?_ ?_)) <;> omega))
  | walk_at "q"
  | with_reducible refine q_isNY rfl ?_
  | ((with_reducible refine q_isNN ?h ?_); (case h => intro z; cases z))
  | with_reducible refine q_notNY rfl ?_
  | ((with_reducible refine q_notNN ?h ?_); (case h => intro z; cases z))
  | ((with_reducible refine q_ixL (xs := ?xs) (v := ?v) ?h ?a ?_); (case h => walk_at "sq"); (case a => first | exact rfl | exact at0 | assumption | walk_at "ax"))
  | walk_at "new"
  | walk_at "own"
  | fail)
local macro_rules | `(tactic| walk_at "own") => `(tactic| fail)
local macro_rules | `(tactic| walk_at "ne") => `(tactic| fail)
local macro_rules | `(tactic| walk_at "ax") => `(tactic| fail)
local macro_rules | `(tactic| walk_at "ex") => `(tactic| first
  | assumption
  | exact Ex.refl _
  | (refine Ex.trans ?_ (by assumption); walk_at "ex"))
structure Glo (mg : Str → Option Value) : Prop where
  n_len : mg "len" = none
  n_int : mg "int" = none
  n_abs : mg "abs" = none
  n_range : mg "range" = none
  n_list : mg "list" = none
  n_enumerate : mg "enumerate" = none
  n_isinstance : mg "isinstance" = none
  c_LONGEST_PART : ∃ t, mg "LONGEST_PART" = some (.int 8 t)
local macro_rules | `(tactic| walk_at "lev") => `(tactic| first | decide | omega)
variable {P : Program} {w : World} {K : PySem.W.Frag} {mg : Str → Option Value} {base : Heap}
/-! ### own classes -/
section
variable (P : Program) (w : World) (K : PySem.W.Frag) (mg : Str → Option Value) (base : Heap)
/-- a method as it stands behind the top -/
def DnM (C : Addr) (m q : Str) (st : Stmt) (ps : List Str) : Prop := ∃ f fd, Cls K C ∧ Meth K C m f ∧ Fun K m q st f fd ∧ Binds K fd ps []
/-- a class with its __init__ -/
def DnI (x q : Str) (C : Addr) (st : Stmt) (ps : List Str) : Prop := ∃ f fd, Mk K C f ∧ Fun K "__init__" q st f fd ∧ mg x = some (.ref C) ∧ Binds K fd ps []
def MetC (C : Addr) (m : Str) (k : Nat) (ps : List Str) (sp : Sp) : Prop := ∃ f fd, Cls K C ∧ Meth K C m f ∧ FnOk P w K mg base CX0 k f fd ps sp ∧ Binds K fd ps []
def MakC (x : Str) (C : Addr) (k : Nat) (ps : List Str) (sp : Sp) : Prop := ∃ f fd, Mk K C f ∧ FnOk P w K mg base CX0 k f fd ps sp ∧ mg x = some (.ref C) ∧ Binds K fd ps []
end
section
variable {P : Program} {w : World} {K : PySem.W.Frag} {mg : Str → Option Value} {base : Heap}
theorem DnM.ok {C : Addr} {m q : Str} {st : Stmt} {N ps : List Str} {k : Nat} {sp : Sp} (D : DnM K C m q st ps) (S : FnScope N ps (defScope st)) (len : ∀ vs H Q E, sp vs H Q E → vs.length = ps.length)
    (hbody : ∀ (f : Addr) (cdv : Value) (A : Around) (outer : List Env) (s : Shared) (H : Hp) (vs : List V) (Q : VK) (E : XK), Room k (A.deeper (PyProof.Rows.envOfC q (defScope st) s.heap.objs.size f cdv)) → sp vs H Q E →
      ∃ t, PSs (cxOf CX0 P w K mg base N q (defScope st) f cdv A outer s H E).nox (defBody st) t ∧ t { nx := fun _ H' => Q .non H', rt := Q } (start N vs) H) : MetC P w K mg base C m (k + 1) ps sp := by
  obtain ⟨f, fd, c, me, F, b⟩ := D
  exact ⟨f, fd, c, me, F.ok S len (hbody f), b⟩
theorem DnI.ok {x q : Str} {C : Addr} {st : Stmt} {N ps : List Str} {k : Nat} {sp : Sp} (D : DnI K mg x q C st ps) (S : FnScope N ps (defScope st)) (len : ∀ vs H Q E, sp vs H Q E → vs.length = ps.length)
    (hbody : ∀ (f : Addr) (cdv : Value) (A : Around) (outer : List Env) (s : Shared) (H : Hp) (vs : List V) (Q : VK) (E : XK), Room k (A.deeper (PyProof.Rows.envOfC q (defScope st) s.heap.objs.size f cdv)) → sp vs H Q E →
      ∃ t, PSs (cxOf CX0 P w K mg base N q (defScope st) f cdv A outer s H E).nox (defBody st) t ∧ t { nx := fun _ H' => Q .non H', rt := Q } (start N vs) H) : MakC P w K mg base x C (k + 1) ps sp := by
  obtain ⟨f, fd, mk, F, m, b⟩ := D
  exact ⟨f, fd, mk, F.ok S len (hbody f), m, b⟩
theorem pe_mtC {X : Cx} {C : Addr} {m : Str} {k : Nat} {ps : List Str} {sp : Sp} {o e : Expr} {es : List Expr} {ta : TE} {t : TA} {pos apos : Pos} {pl : Sem Bool} (G : MetC X.prog X.w X.K X.mg X.base C m k ps sp) (hr : Room k X.A) (he : PE X o ta) (ha : PA X (e :: es) t)
    (hst : starEach (e :: es) X.env = (false, eval e X.env) :: starEach es X.env := by rfl) (hpl : (backTo pos (starEach es X.env)).any (·.1) = false := by rfl)
    (ht : eval (.Call (.Attribute o m apos) (e :: es) [] pos) X.env = (do
      let ov ← eval o X.env
      standAt apos.atName
      let (f, first) ← holding [ov] (getMethod ov m pl)
      callWith pos f first (backTo pos (starEach (e :: es) X.env)) (backToKw pos (keywordEach [] X.env))) := by rfl) :
    PE X (.Call (.Attribute o m apos) (e :: es) [] pos) (tMeth C m sp [] E0 ta t) := by
  obtain ⟨f, fd, c, me, F, b⟩ := G
  exact pe_meth (pl := pl) he c me F hr b .nil pass0 ha hst hpl ht
theorem pe_mtC0 {X : Cx} {C : Addr} {m : Str} {k : Nat} {ps : List Str} {sp : Sp} {o : Expr} {ta : TE} {pos apos : Pos} {pl : Sem Bool} (G : MetC X.prog X.w X.K X.mg X.base C m k ps sp) (hr : Room k X.A) (he : PE X o ta)
    (ht : eval (.Call (.Attribute o m apos) [] [] pos) X.env = (do
      let ov ← eval o X.env
      standAt apos.atName
      let (f, first) ← holding [ov] (getMethod ov m pl)
      callWith pos f first (backTo pos (starEach [] X.env)) (backToKw pos (keywordEach [] X.env))) := by rfl) :
    PE X (.Call (.Attribute o m apos) [] [] pos) (tMeth C m sp [] E0 ta tNil) := by
  obtain ⟨f, fd, c, me, F, b⟩ := G
  exact pe_meth0 (pl := pl) he c me F hr b .nil pass0 ht
theorem pe_mkC {X : Cx} {x : Str} {C : Addr} {k : Nat} {ps : List Str} {sp : Sp} {e : Expr} {es : List Expr} {t : TA} {p pos : Pos} (G : MakC X.prog X.w X.K X.mg X.base x C k ps sp) (hr : Room (k + 1) X.A) (hg : Gl X x) (ha : PA X (e :: es) t)
    (hdb : (x == ("__debug__" : Str)) = false := by decide) (he : starEach (e :: es) X.env = (false, eval e X.env) :: starEach es X.env := by rfl) (hpl : (backTo pos (starEach es X.env)).any (·.1) = false := by rfl) : PE X (.Call (.Name x p) (e :: es) [] pos) (tMake C sp [] E0 t) := by
  obtain ⟨f, fd, mk, F, m, b⟩ := G
  exact pe_make mk F hr hg m b .nil pass0 ha hdb he hpl
end
section
variable {K : PySem.W.Frag} {σ : L2.St} {H : Hp} {Q : VK} {v x y : V} {te tb : TE} {tr : TA} {C : Addr} {f : Str} {nx bk ct : L2.St → Hp → Prop} {rt : VK}
def fldK (K : PySem.W.Frag) (f : Str) (Q : VK) (x : V) (H : Hp) : Prop := ∃ a C dx fs v, x = .ref a ∧ H a = some (.ins C dx fs) ∧ Cls K C ∧ NoAttr K C f ∧ fs.lookup f = some v ∧ Q v H
theorem r_fld (q : te σ H fun x H1 => fldK K f Q x H1) : tFld K te f σ H Q := q
theorem q_fld {a dx : Addr} {fs : List (Str × V)} (h : H a = some (.ins C dx fs)) (c : Cls K C) (n : NoAttr K C f) (l : fs.lookup f = some v) (q : Q v H) : fldK K f Q (.ref a) H := ⟨a, C, dx, fs, v, rfl, h, c, n, l, q⟩
def metK (C : Addr) (m : Str) (sp : Sp) (tr : TA) (σ : L2.St) (Q : VK) (x : V) (H : Hp) : Prop := ∃ a dx fs, x = .ref a ∧ H a = some (.ins C dx fs) ∧ fs.lookup m = none ∧ tr σ H fun vs H2 => sp (x :: (vs ++ [])) H2 Q E0
theorem r_meth {m : Str} {sp : Sp} (q : te σ H fun x H1 => metK C m sp tr σ Q x H1) : tMeth C m sp [] E0 te tr σ H Q := q
theorem q_meth {m : Str} {sp : Sp} {a dx : Addr} {fs : List (Str × V)} (h : H a = some (.ins C dx fs)) (l : fs.lookup m = none) (q : tr σ H fun vs H2 => sp (.ref a :: vs) H2 Q E0) : metK C m sp tr σ Q (.ref a) H := by
  refine ⟨a, dx, fs, rfl, h, l, ?_⟩
  have e : (fun (vs : List V) (H2 : Hp) => sp (.ref a :: (vs ++ [])) H2 Q E0) = fun vs H2 => sp (.ref a :: vs) H2 Q E0 := by
    funext vs H2
    rw [List.append_nil]
  rw [e]
  exact q
def sfldK (K : PySem.W.Frag) (f : Str) (N : Hp → Prop) (y x : V) (H : Hp) : Prop := ∃ a C dx fs, x = .ref a ∧ H a = some (.ins C dx fs) ∧ Cls K C ∧ NoAttr K C f ∧ fs.length < 1000 ∧ N (upd H a (.ins C dx (putF f y fs)))
theorem r_sfld (q : tb σ H fun y H1 => te σ H1 fun x H2 => sfldK K f (nx σ) y x H2) : sFld K te tb f ⟨nx, rt, bk, ct⟩ σ H := q
theorem q_sfld {N : Hp → Prop} {a dx : Addr} {fs fs' : List (Str × V)} (h : H a = some (.ins C dx fs)) (c : Cls K C) (n : NoAttr K C f) (l : fs.length < 1000) (e : putF f y fs = fs') (q : N (upd H a (.ins C dx fs'))) : sfldK K f N y (.ref a) H := ⟨a, C, dx, fs, rfl, h, c, n, l, by rw [e]; exact q⟩
def afldK (K : PySem.W.Frag) (f : Str) (tb : TE) (rd : V → V → Hp → VK → Prop) (nx : L2.St → Hp → Prop) (σ : L2.St) (x : V) (H1 : Hp) : Prop := ∃ a C dx fs v, x = .ref a ∧ H1 a = some (.ins C dx fs) ∧ Cls K C ∧ NoAttr K C f ∧ fs.lookup f = some v ∧
  tb σ H1 fun y H2 => rd v y H2 fun z H3 => ∃ dx' fs', H3 a = some (.ins C dx' fs') ∧ fs'.length < 1000 ∧ nx σ (upd H3 a (.ins C dx' (putF f z fs')))
theorem r_afld {rd : V → V → Hp → VK → Prop} (q : te σ H fun x H1 => afldK K f tb rd nx σ x H1) : sFldAug K te tb rd f ⟨nx, rt, bk, ct⟩ σ H := q
theorem q_afld {rd : V → V → Hp → VK → Prop} {a dx : Addr} {fs : List (Str × V)} (h : H a = some (.ins C dx fs)) (c : Cls K C) (n : NoAttr K C f) (l : fs.lookup f = some v)
    (q : tb σ H fun y H2 => rd v y H2 fun z H3 => ∃ dx' fs', H3 a = some (.ins C dx' fs') ∧ fs'.length < 1000 ∧ nx σ (upd H3 a (.ins C dx' (putF f z fs')))) : afldK K f tb rd nx σ (.ref a) H := ⟨a, C, dx, fs, v, rfl, h, c, n, l, q⟩
def makK (C : Addr) (sp : Sp) (Q : VK) (vs : List V) (H : Hp) : Prop := ∀ x dx, H x = none → H dx = none → dx ≠ x → sp (.ref x :: vs) (upd (upd H dx (.own x)) x (.ins C dx [])) (fun v H2 => v = .non ∧ Q (.ref x) H2) E0
theorem r_make {sp : Sp} (q : tr σ H fun vs H1 => makK C sp Q vs H1) : tMake C sp [] E0 tr σ H Q := by
  have e : (fun (vs : List V) (H1 : Hp) => ∀ x dx, H1 x = none → H1 dx = none → dx ≠ x → sp (.ref x :: (vs ++ [])) (upd (upd H1 dx (.own x)) x (.ins C dx [])) (fun v H2 => v = .non ∧ Q (.ref x) H2) E0) = fun vs H1 => makK C sp Q vs H1 := by
    funext vs H1
    rw [List.append_nil]
    rfl
  show tr σ H _
  rw [e]
  exact q
theorem q_addF {i j : Int} (q : Q (.int (i + j)) H) : rAdd (.int i) (.int j) H Q := ⟨i, j, rfl, rfl, q⟩
theorem lk_hd {r : List (Str × V)} : List.lookup f ((f, v) :: r) = some v := by simp [List.lookup]
theorem lk_tl {g : Str} {u : V} {r : List (Str × V)} (h : decide (f = g) = false) : List.lookup f ((g, u) :: r) = List.lookup f r := by
  have h' : ¬ f = g := of_decide_eq_false h
  have h2 : (f == g) = false := by simpa using h'
  simp [List.lookup, h2]
theorem lk_tl' {g : Str} {u : V} {r : List (Str × V)} {o : Option V} (h : decide (f = g) = false) (q : List.lookup f r = o) : List.lookup f ((g, u) :: r) = o := (lk_tl h).trans q
theorem put_nil : putF f v [] = [(f, v)] := rfl
theorem put_hd {u : V} {r : List (Str × V)} : putF f v ((f, u) :: r) = (f, v) :: r := by
  show (if f = f then _ else _) = _
  rw [if_pos rfl]
theorem put_tl {g : Str} {u : V} {r r' : List (Str × V)} (h : decide (g = f) = false) (q : putF f v r = r') : putF f v ((g, u) :: r) = (g, u) :: r' := by
  show (if g = f then _ else _) = _
  rw [if_neg (of_decide_eq_false h), q]
end
local macro_rules | `(tactic| walk_at "lk") => `(tactic| first
  | exact lk_hd
  | exact rfl
  | (refine lk_tl' (by decide +kernel) ?_; walk_at "lk"))
local macro_rules | `(tactic| walk_at "put") => `(tactic| first
  | exact put_nil
  | exact put_hd
  | (refine put_tl (by decide +kernel) ?_; walk_at "put"))
local macro_rules | `(tactic| walk_at "cls") => `(tactic| assumption)
local macro_rules | `(tactic| walk_at "own") => `(tactic| first
  | with_reducible refine r_fld ?_
  | with_reducible refine r_make ?_
  | ((with_reducible refine q_fld (C := ?C) (dx := ?dx) (fs := ?fs) (v := ?v) ?h ?c ?n ?l ?_); (case h => walk_at "lift"); (case c => walk_at "cls"); (case n => walk_at "cls"); (case l => walk_at "lk"))
  | with_reducible refine r_meth ?_
  | ((with_reducible refine q_meth (dx := ?dx) (fs := ?fs) ?h ?l ?_); (case h => walk_at "lift"); (case l => walk_at "lk"))
  | with_reducible refine r_sfld ?_
  | with_reducible refine r_afld ?_
  | ((with_reducible refine q_afld (C := ?C) (dx := ?dx) (fs := ?fs) (v := ?v) ?h ?c ?n ?l ?_); (case h => walk_at "lift"); (case c => walk_at "cls"); (case n => walk_at "cls"); (case l => walk_at "lk"))
  | with_reducible refine q_addF ?_)
abbrev s__law_state : Stmt := topS 8
theorem sc__law_state : FnScope ["_law_script", "_law_seed", "_law_cell"] ["_law_script"] (defScope s__law_state) := ⟨rfl, rfl, rfl, by decide +kernel, rfl, by decide +kernel, by decide +kernel⟩
abbrev p__law_state : List Str := ["_law_script"]
abbrev s__law_draw : Stmt := topS 9
theorem sc__law_draw : FnScope ["_law_state_here", "_law_many", "_law_cells", "_law_mixed", "_law_number"] ["_law_state_here", "_law_many"] (defScope s__law_draw) := ⟨rfl, rfl, rfl, by decide +kernel, rfl, by decide +kernel, by decide +kernel⟩
abbrev p__law_draw : List Str := ["_law_state_here", "_law_many"]
abbrev s__law_pick : Stmt := topS 10
theorem sc__law_pick : FnScope ["_law_state_here", "_law_row"] ["_law_state_here", "_law_row"] (defScope s__law_pick) := ⟨rfl, rfl, rfl, by decide +kernel, rfl, by decide +kernel, by decide +kernel⟩
abbrev p__law_pick : List Str := ["_law_state_here", "_law_row"]
/-! ### the draws' state -/
structure StOk (st c : Addr) (H : Hp) : Prop where
  ex : ∃ (ns : List Int) (s : Int), H st = some (.lst [.ref c, .int s]) ∧ H c = some (.lst (ns.map V.int)) ∧ (∀ n ∈ ns, 0 ≤ n) ∧ 0 ≤ s ∧ s < 2147483648
  ne : c ≠ st
theorem st_ex {st c : Addr} {H H' : Hp} (e : Ex H H') (h : StOk st c H) : StOk st c H' := by
  obtain ⟨⟨ns, s, a, b, d⟩, n⟩ := h
  exact ⟨⟨ns, s, e _ _ a, e _ _ b, d⟩, n⟩
/-- a fresh address is neither -/
theorem st_fresh {st c p : Addr} {H : Hp} (h : StOk st c H) (hp : H p = none) : p ∉ [st, c] := by
  obtain ⟨⟨ns, s, a, b, d⟩, n⟩ := h
  simp only [List.mem_cons, List.not_mem_nil, or_false, not_or]
  exact ⟨(ne_of_none a hp).symm, (ne_of_none b hp).symm⟩
/-! ### heaps, further: one object changed, the rest as it was -/
theorem q_tyLs {K : PySem.W.Frag} {H : Hp} {p : Addr} {xs : List V} {A : Prop} (h : SqL K H p xs) (q : A) : tyV K "list" (.ref p) H ∧ A := ⟨Or.inl ⟨rfl, xs, h⟩, q⟩
theorem kp_one {H : Hp} {p : Addr} {o o' : HO} (h : H p = some o) (n : ∀ xs, o ≠ .tup xs) : Kp [p] H (upd H p o') := Kp.set (List.mem_singleton.mpr rfl) (fun xs z => by rw [h] at z; exact n xs (Option.some.inj z)) rfl
theorem nin_c {b a : Addr} {M : List Addr} (h : b ≠ a) (t : b ∉ M) : b ∉ a :: M := fun z => by
  rcases List.mem_cons.mp z with z | z
  · exact h z
  · exact t z
theorem ne_nw {H : Hp} {a b : Addr} {o : HO} (h : H b = some o) (hp : H a = none) : b ≠ a := ne_of_none h hp
theorem ne_knd {H : Hp} {a b : Addr} {o u : HO} (h : H a = some o) (h' : H b = some u) (n : o ≠ u) : a ≠ b := ne_of h h' n
theorem kp_sub1 {H H' : Hp} {M N : List Addr} (k : Kp M H H') (s : ∀ x, x ∈ M → x ∈ N) : Kp N H H' := k.sub s
theorem sub_hd1 {D : Addr} {M : List Addr} : ∀ x, x ∈ [D] → x ∈ D :: M := fun x h => by rw [List.mem_singleton.mp h]; exact List.mem_cons_self ..
theorem kp_fresh {M N : List Addr} {H H1 H' : Hp} (k : Kp M H H1) (k2 : Kp N H1 H') (f : ∀ x, x ∈ N → x ∈ M ∨ H x = none) : Kp M H H' := ⟨fun a xs h => k2.tup _ _ (k.tup _ _ h), fun a o n h => k2.out _ _ (fun z => by
  rcases f a z with q | q
  · exact n q
  · rw [q] at h; cases h) (k.out _ _ n h)⟩
theorem fsome {H : Hp} {D : Addr} {o : HO} (h : H D = some o) : H D ≠ none := fun z => by rw [h] at z; cases z
section
variable {K : PySem.W.Frag} {σ : L2.St} {H : Hp} {Q : VK} {v x y : V} {te tb : TE} {tr : TA} {C : Addr} {f : Str} {nx bk ct : L2.St → Hp → Prop} {rt : VK}
theorem q_appN {l : Addr} {xs : List V} (h : H l = some (.lst xs)) (hz : xs.length < 100000) (q : ∀ Hn, Kp [l] H Hn → Hn l = some (.lst (xs ++ [y])) → Q .non Hn) : rAppend (.ref l) [y] H Q := q_append h hz (q _ (kp_one h (by intro _ z; cases z)) upd_same)
theorem q_sfldN {N : Hp → Prop} {a dx : Addr} {fs fs' : List (Str × V)} (h : H a = some (.ins C dx fs)) (c : Cls K C) (n : NoAttr K C f) (l : fs.length < 1000) (e : putF f y fs = fs') (q : ∀ Hn, Kp [a] H Hn → Hn a = some (.ins C dx fs') → N Hn) : sfldK K f N y (.ref a) H :=
  q_sfld h c n l e (q _ (kp_one h (by intro _ z; cases z)) upd_same)
theorem q_pop0N {l : Addr} {xs : List V} (h : H l = some (.lst (x :: xs))) (q : ∀ Hn, Kp [l] H Hn → Hn l = some (.lst xs) → Q x Hn) : rPopAt (.ref l) [.int 0] H Q := q_pop0 h (q _ (kp_one h (by intro _ z; cases z)) upd_same)
theorem q_setLN {p : Addr} {xs : List V} {k : Int} {j : Nat} {QH : Hp → Prop} (h : H p = some (.lst xs)) (hj : ixN xs.length k = some j) (q : ∀ Hn, Kp [p] H Hn → Hn p = some (.lst (xs.set j v)) → QH Hn) : rSetL (.ref p) (.int k) v H QH := q_setL h hj (q _ (kp_one h (by intro _ z; cases z)) upd_same)
theorem q_dgetI {p : Addr} {kvs : List (Key × V)} {n : Int} {B : V → Prop} (h : H p = some (.dK kvs)) (hl : valV kvs (Sum.inl n) = some v) (q : B v) : ∃ a v', V.ref p = .ref a ∧ DGet H a (.int n) (some v') ∧ B v' :=
  ⟨p, v, rfl, by rw [← hl]; exact DGet.k (k := Sum.inl n) h, q⟩
theorem f_dput {td ty tv : TE} (q : tv σ H fun v H1 => td σ H1 fun x H2 => ty σ H2 fun y H3 => ∃ a H4, x = .ref a ∧ DPut H3 a y v H4 ∧ nx σ H4) : sDPut td ty tv ⟨nx, rt, bk, ct⟩ σ H := q
theorem q_dputI {p : Addr} {kvs : List (Key × V)} {n : Int} {B : Hp → Prop} (h : H p = some (.dK kvs)) (hl : kvs.length ≤ 1000) (q : ∀ Hn, Kp [p] H Hn → Hn p = some (.dK (putK kvs (Sum.inl n) v)) → B Hn) : ∃ a H', V.ref p = .ref a ∧ DPut H a (.int n) v H' ∧ B H' :=
  ⟨p, _, rfl, DPut.k (k := Sum.inl n) h (sl1000' (by omega)), q _ (kp_one h (by intro _ z; cases z)) upd_same⟩
theorem q_dputS {p : Addr} {kvs : List (Key × V)} {z : Str} {B : Hp → Prop} (h : H p = some (.dK kvs)) (hl : kvs.length ≤ 1000) (q : ∀ Hn, Kp [p] H Hn → Hn p = some (.dK (putK kvs (Sum.inr z) v)) → B Hn) : ∃ a H', V.ref p = .ref a ∧ DPut H a (.str z) v H' ∧ B H' :=
  ⟨p, _, rfl, DPut.k (k := Sum.inr z) h (sl1000' (by omega)), q _ (kp_one h (by intro _ z; cases z)) upd_same⟩
theorem q_truC {B : Bool → Prop} {a : Addr} {xs : List V} (h : SqL K H a (x :: xs)) (q : B true) : ∃ k, TruV K (.ref a) H k ∧ B k := ⟨_, .inl ⟨_, h, rfl⟩, q⟩
theorem q_truN {B : Bool → Prop} {a : Addr} (h : SqL K H a []) (q : B false) : ∃ k, TruV K (.ref a) H k ∧ B k := ⟨_, .inl ⟨_, h, rfl⟩, q⟩
theorem f_truth {QT : Bool → Hp → Prop} (q : te σ H fun x H' => ∃ k, TruV K x H' k ∧ QT k H') : (fun σ H (Q : Bool → Hp → Prop) => te σ H fun x H' => ∃ k, TruV K x H' k ∧ Q k H') σ H QT := q
theorem q_isiL {p : Addr} {xs : List V} (h : H p = some (.lst xs)) (q : Q (.bl true) H) : rIsi K [.ref p, .ty "list"] H Q := q_isi (.lst h) (kit_ty (r := true) (by decide +kernel)) q
theorem q_isiTp {p : Addr} {xs : List V} (h : H p = some (.tup xs)) (q : Q (.bl true) H) : rIsi K [.ref p, .ty "tuple"] H Q := q_isi (.tup h) (kit_ty (r := true) (by decide +kernel)) q
theorem q_isiLT {p : Addr} {xs : List V} (h : H p = some (.tup xs)) (q : Q (.bl false) H) : rIsi K [.ref p, .ty "list"] H Q := q_isi (.tup h) (kit_ty (r := false) (by decide +kernel)) q
theorem q_isiBB {b : Bool} (q : Q (.bl true) H) : rIsi K [.bl b, .ty "bool"] H Q := q_isi (.bl b) (kit_ty (by decide +kernel)) q
end
local macro_rules | `(tactic| walk_at "nin") => `(tactic| first
  | assumption
  | exact List.not_mem_nil
  | (refine st_fresh (H := ?H) ?a ?b; (case b => assumption); (case a => walk_at "st_ok"))
  | (refine nin_c (by walk_at "ne1") ?_; walk_at "nin"))
local macro_rules | `(tactic| walk_at "ne1") => `(tactic| first
  | assumption
  | exact Ne.symm (by assumption)
  | (refine ne_nw (H := ?hh) (o := ?u) ?a ?b; (case b => assumption); (case a => walk_at "lift"))
  | (refine Ne.symm ?_; refine ne_nw (H := ?hh) (o := ?u) ?a ?b; (case b => assumption); (case a => walk_at "lift")))
local macro_rules | `(tactic| walk_at "putx") => `(tactic| first
  | exact put_nil
  | exact put_hd
  | (refine put_tl (r' := ?rr) ?hh ?qq; (case hh => decide +kernel); (case qq => walk_at "putx")))
local macro_rules | `(tactic| walk_at "len2") => `(tactic| first
  | decide
  | omega
  | exact of_decide_eq_true rfl
  | (simp only [List.length_cons, List.length_nil, List.length_append, List.length_map, List.length_take]; omega))
theorem r_dnewN {σ : L2.St} {H : Hp} {Q : VK} (q : ∀ p Hn, H p = none → Ex H Hn → Hn p = some (.dK []) → Q (.ref p) Hn) : tDNewK σ H Q := fun p hp => q p _ hp (Ex.mk hp rfl) upd_same
set_option hygiene false in
local macro_rules | `(tactic| walk_at "i_upd") => `(tactic| intro Hn ku hu)
local macro_rules | `(tactic| walk_at "own") => `(tactic| first
  | ((with_reducible refine q_tyLs (xs := ?xs) ?h ?_); (case h => walk_at "sq"))
  | ((with_reducible refine q_appN (xs := ?xs) ?h ?z ?_); (case h => walk_at "lift"); (case z => walk_at "len2"); walk_at "i_upd")
  | ((with_reducible refine q_setLN (xs := ?xs) (j := ?j) ?h ?e ?_); (case h => walk_at "lift"); (case e => first | exact rfl | exact ix0); walk_at "i_upd")
  | ((with_reducible refine q_pop0N (x := ?x) (xs := ?xs) ?h ?_); (case h => walk_at "lift"); walk_at "i_upd")
  | ((with_reducible refine q_sfldN (C := ?C) (dx := ?dx) (fs := ?fs) (fs' := ?fs') ?h ?c ?n ?l ?e ?_); (case h => walk_at "lift"); (case c => walk_at "cls"); (case n => walk_at "cls"); (case l => walk_at "len2"); (case e => walk_at "putx"); walk_at "i_upd")
  | with_reducible refine f_dput ?_
  | ((with_reducible refine q_rng1 ?h ?_); (case h => simp only [List.length_map]; omega))
  | (with_reducible refine r_dnewN ?_; walk_at "i_new")
  | ((with_reducible refine q_truC (x := ?x) (xs := ?xs) ?h ?_); (case h => walk_at "sq"))
  | ((with_reducible refine q_truN ?h ?_); (case h => walk_at "sq"))
  | ((with_reducible refine q_isiL (xs := ?xs) ?h ?_); (case h => walk_at "lift"))
  | ((with_reducible refine q_isiTp (xs := ?xs) ?h ?_); (case h => walk_at "lift"))
  | ((with_reducible refine q_isiLT (xs := ?xs) ?h ?_); (case h => walk_at "lift"))
  | with_reducible refine q_isiBB ?_)
/-! ### data of tuples -/
mutual
inductive Tp (H : Hp) : V → PyData → Prop
  | non : Tp H .non .none
  | bl (b : Bool) : Tp H (.bl b) (.bool b)
  | int (i : Int) : Tp H (.int i) (.int i)
  | str (x : Str) : Tp H (.str x) (.str x)
  | tup {a : Addr} {xs : List V} {ds : List PyData} : H a = some (.tup xs) → Tps H xs ds → Tp H (.ref a) (.tuple ds)
inductive Tps (H : Hp) : List V → List PyData → Prop
  | nil : Tps H [] []
  | cons {v : V} {vs : List V} {d : PyData} {ds : List PyData} : Tp H v d → Tps H vs ds → Tps H (v :: vs) (d :: ds)
end
mutual
theorem tp_kp {M : List Addr} {H H' : Hp} (k : Kp M H H') : ∀ {v : V} {d : PyData}, Tp H v d → Tp H' v d
  | _, _, .non => .non
  | _, _, .bl b => .bl b
  | _, _, .int i => .int i
  | _, _, .str x => .str x
  | _, _, .tup h t => .tup (k.tup _ _ h) (tps_kp k t)
theorem tps_kp {M : List Addr} {H H' : Hp} (k : Kp M H H') : ∀ {vs : List V} {ds : List PyData}, Tps H vs ds → Tps H' vs ds
  | _, _, .nil => .nil
  | _, _, .cons h t => .cons (tp_kp k h) (tps_kp k t)
end
theorem tp_ex {H H' : Hp} (k : Ex H H') {v : V} {d : PyData} (h : Tp H v d) : Tp H' v d := tp_kp (M := []) k.kp h
theorem tps_ex {H H' : Hp} (k : Ex H H') {v : List V} {d : List PyData} (h : Tps H v d) : Tps H' v d := tps_kp (M := []) k.kp h
mutual
theorem tp_dp {K : PySem.W.Frag} {H : Hp} : ∀ {v : V} {d : PyData}, Tp H v d → Dp K H v d
  | _, _, .non => .non
  | _, _, .bl b => .bl b
  | _, _, .int i => .int i
  | _, _, .str x => .str x
  | _, _, .tup h t => .tup (sqt h) (tps_dp t)
theorem tps_dp {K : PySem.W.Frag} {H : Hp} : ∀ {vs : List V} {ds : List PyData}, Tps H vs ds → DpAll K H vs ds
  | _, _, .nil => .nil
  | _, _, .cons h t => .cons (tp_dp h) (tps_dp t)
end
theorem tps_app {H : Hp} : ∀ {vs ws : List V} {ds es : List PyData}, Tps H vs ds → Tps H ws es → Tps H (vs ++ ws) (ds ++ es)
  | _, _, _, _, .nil, h => h
  | _, _, _, _, .cons a t, h => .cons a (tps_app t h)
theorem tps_len {H : Hp} : ∀ {vs : List V} {ds : List PyData}, Tps H vs ds → vs.length = ds.length
  | _, _, .nil => rfl
  | _, _, .cons _ t => by rw [List.length_cons, List.length_cons, tps_len t]
def fInts (ns : List Int) : List PyData := ns.map PyData.int
theorem tps_ints {H : Hp} : ∀ ns : List Int, Tps H (ns.map V.int) (fInts ns)
  | [] => .nil
  | n :: r => .cons (.int n) (tps_ints r)
theorem fints_dp {K : PySem.W.Frag} {H : Hp} : ∀ ns : List Int, DpAll K H (ns.map V.int) (fInts ns)
  | [] => .nil
  | n :: r => .cons (.int n) (fints_dp r)
theorem fints_lay : ∀ ns : List Int, PyData.canLayAll0 (fInts ns) = true
  | [] => by simp [fInts, PyData.canLayAll0]
  | c :: r => by
    have h := fints_lay r
    simp only [fInts] at h
    simp [fInts, PyData.canLayAll0, PyData.canLay0, h]
theorem fints_depth : ∀ ns : List Int, PyData.depthAll (fInts ns) = 0
  | [] => by simp [fInts, PyData.depthAll]
  | c :: r => by
    have h := fints_depth r
    simp only [fInts] at h
    simp [fInts, PyData.depthAll, PyData.depth, h]
theorem flay_map {α : Type} {f : α → PyData} : ∀ xs : List α, (∀ x ∈ xs, (f x).canLay0 = true) → PyData.canLayAll0 (xs.map f) = true
  | [], _ => by simp [PyData.canLayAll0]
  | c :: r, h => by simp [PyData.canLayAll0, h c (List.mem_cons_self ..), flay_map r fun x hx => h x (List.mem_cons_of_mem _ hx)]
theorem fdepth_map {α : Type} {f : α → PyData} {b : Nat} : ∀ xs : List α, (∀ x ∈ xs, (f x).depth ≤ b) → PyData.depthAll (xs.map f) ≤ b
  | [], _ => by simp [PyData.depthAll]
  | c :: r, h => by
    have h1 := h c (List.mem_cons_self ..)
    have h2 := fdepth_map r fun x hx => h x (List.mem_cons_of_mem _ hx)
    simp only [List.map_cons, PyData.depthAll]
    omega
theorem flist_shaped {ds : List PyData} (h1 : PyData.canLayAll0 ds = true) (h2 : PyData.depthAll ds ≤ 20) : SeqAt.shaped (.list ds) = true := by
  have h3 : PyData.depthAll ds + 1 ≤ 64 := by omega
  simp [SeqAt.shaped, PyData.canLay0, PyData.depth, h1, h3]
theorem fq_eqDat {K : PySem.W.Frag} {H : Hp} {Q : VK} {a b : V} {ds : List PyData} (h1 : Dp K H a (.list ds)) (h2 : Dp K H b (.list ds)) (l : PyData.canLayAll0 ds = true) (d : PyData.depthAll ds ≤ 20) (q : Q (.bl true) H) : rEqA K a b H Q :=
  .inr ⟨_, _, h1, h2, flist_shaped l d, flist_shaped l d, by rw [SeqAt.eqv_refl _ (by simp [PyData.canLay0, l])]; exact q⟩
theorem fq_neDat {K : PySem.W.Frag} {H : Hp} {Q : VK} {a b : V} {ds : List PyData} (h1 : Dp K H a (.list ds)) (h2 : Dp K H b (.list ds)) (l : PyData.canLayAll0 ds = true) (d : PyData.depthAll ds ≤ 20) (q : Q (.bl false) H) : rNeA K a b H Q :=
  .inr ⟨_, _, h1, h2, flist_shaped l d, flist_shaped l d, by rw [SeqAt.eqv_refl _ (by simp [PyData.canLay0, l])]; exact q⟩
theorem fq_neInts {K : PySem.W.Frag} {H : Hp} {Q : VK} {a b : Addr} {ns : List Int} (h1 : H a = some (.lst (ns.map V.int))) (h2 : H b = some (.lst (ns.map V.int))) (q : Q (.bl false) H) : rNeA K (.ref a) (.ref b) H Q :=
  fq_neDat (.lst (sql h1) (fints_dp ns)) (.lst (sql h2) (fints_dp ns)) (fints_lay ns) (by rw [fints_depth]; omega) q
theorem fq_eqInts {K : PySem.W.Frag} {H : Hp} {Q : VK} {a b : Addr} {ns : List Int} (h1 : H a = some (.lst (ns.map V.int))) (h2 : H b = some (.lst (ns.map V.int))) (q : Q (.bl true) H) : rEqA K (.ref a) (.ref b) H Q :=
  fq_eqDat (.lst (sql h1) (fints_dp ns)) (.lst (sql h2) (fints_dp ns)) (fints_lay ns) (by rw [fints_depth]; omega) q
local macro_rules | `(tactic| walk_at "tp") => `(tactic| first
  | assumption
  | exact Tp.int _
  | exact Tp.str _
  | exact Tp.non
  | exact Tp.bl _
  | (refine Tp.tup (xs := ?xs) ?h ?t; (case h => walk_at "lift"); (case t => walk_at "tps"))
  | (refine tp_ex (by assumption) ?_; walk_at "tp")
  | (refine tp_kp (by assumption) ?_; walk_at "tp"))
local macro_rules | `(tactic| walk_at "tps") => `(tactic| first
  | assumption
  | exact Tps.nil
  | (refine Tps.cons ?h ?t; (case h => walk_at "tp"); (case t => walk_at "tps"))
  | (refine tps_ex (by assumption) ?_; walk_at "tps")
  | (refine tps_kp (by assumption) ?_; walk_at "tps"))
/-! ### frames over several steps -/
theorem subf_n {M : List Addr} {H : Hp} : ∀ x, x ∈ ([] : List Addr) → x ∈ M ∨ H x = none := fun _ h => absurd h List.not_mem_nil
theorem subf_c {M N : List Addr} {H : Hp} {a : Addr} (h : a ∈ M ∨ H a = none) (t : ∀ x, x ∈ N → x ∈ M ∨ H x = none) : ∀ x, x ∈ a :: N → x ∈ M ∨ H x = none := fun x hx => by
  rcases List.mem_cons.mp hx with rfl | hx
  · exact h
  · exact t x hx
theorem ex_of_kp {H H' : Hp} (k : Kp [] H H') : Ex H H' := fun a o h => k.out a o List.not_mem_nil h
local macro_rules | `(tactic| walk_at "frees") => `(tactic| first
  | assumption
  | (refine free_back (by assumption) ?_; walk_at "frees")
  | (refine free_backK (by assumption) (by walk_at "nin") ?_; walk_at "frees"))
local macro_rules | `(tactic| walk_at "mem") => `(tactic| first
  | exact List.mem_cons_self ..
  | (refine List.mem_cons_of_mem _ ?_; walk_at "mem"))
local macro_rules | `(tactic| walk_at "subf") => `(tactic| first
  | exact subf_n
  | (refine subf_c ?a ?t; (case a => first | (refine Or.inl ?_; walk_at "mem") | (refine Or.inr ?_; walk_at "frees") | fail); (case t => walk_at "subf")))
local macro_rules | `(tactic| walk_at "kpx") => `(tactic| first
  | assumption
  | exact Kp.refl _
  | (refine Kp.trans ?_ (Ex.kp (by assumption)); walk_at "kpx")
  | (refine kp_fresh ?k (by assumption) ?f; (case f => walk_at "subf"); (case k => walk_at "kpx")))
local macro_rules | `(tactic| walk_at "exx") => `(tactic| first
  | assumption
  | exact Ex.refl _
  | (refine ex_of_kp ?_; walk_at "kpx"))
theorem st_kpx {st c : Addr} {M : List Addr} {H H' : Hp} (k : Kp M H H') (n : ∀ x, x ∈ M → x ∉ [st, c]) (h : StOk st c H) : StOk st c H' := by
  obtain ⟨⟨ns, s, a, b, d⟩, e⟩ := h
  exact ⟨⟨ns, s, k.out _ _ (fun z => n _ z (by simp)) a, k.out _ _ (fun z => n _ z (by simp)) b, d⟩, e⟩
theorem alln_n {S : List Addr} : ∀ x, x ∈ ([] : List Addr) → x ∉ S := fun _ h => absurd h List.not_mem_nil
theorem alln_c {S M : List Addr} {a : Addr} (h : a ∉ S) (t : ∀ x, x ∈ M → x ∉ S) : ∀ x, x ∈ a :: M → x ∉ S := fun x hx => by
  rcases List.mem_cons.mp hx with rfl | hx
  · exact h
  · exact t x hx
local macro_rules | `(tactic| walk_at "alln") => `(tactic| first
  | assumption
  | exact alln_n
  | (refine alln_c ?a ?t; (case a => walk_at "nin"); (case t => walk_at "alln")))
local macro_rules | `(tactic| walk_at "st_ok") => `(tactic| first
  | assumption
  | (refine st_ex (by assumption) ?_; walk_at "st_ok")
  | (refine st_kpx (by assumption) ?n ?hh; (case hh => walk_at "st_ok"); (case n => walk_at "alln")))
theorem q_catN {K : PySem.W.Frag} {H : Hp} {Q : VK} {a b : Addr} {xs ys : List V} (h1 : H a = some (.lst xs)) (h2 : H b = some (.lst ys)) (z : xs.length + ys.length ≤ 100000) (q : ∀ p Hn, H p = none → Ex H Hn → Hn p = some (.lst (xs ++ ys)) → Q (.ref p) Hn) : rAddA K (.ref a) (.ref b) H Q :=
  .inr (.inr (.inl ⟨a, b, xs, ys, rfl, rfl, h1, h2, sl1000 z, fun p hp => q p _ hp (Ex.mk hp rfl) upd_same⟩))
local macro_rules | `(tactic| walk_at "own") => `(tactic| first
  | ((with_reducible refine q_catN (xs := ?xs) (ys := ?ys) ?h1 ?h2 ?z ?_); (case h1 => walk_at "lift"); (case h2 => walk_at "lift"); (case z => walk_at "len2"); walk_at "i_new"))
theorem r_par {σ : L2.St} {H : Hp} {ta : TA} {i j : Nat} {nx bk ct : L2.St → Hp → Prop} {rt : VK} (q : ta σ H fun vs H1 => ∃ v w, vs = [v, w] ∧ nx ((σ.set i (some v)).set j (some w)) H1) : tPar i j ta ⟨nx, rt, bk, ct⟩ σ H := q
theorem q_par {x y : V} {B : V → V → Prop} (q : B x y) : ∃ v w, [x, y] = [v, w] ∧ B v w := ⟨x, y, rfl, q⟩
local macro_rules | `(tactic| walk_at "own") => `(tactic| first
  | with_reducible refine r_par ?_
  | with_reducible refine q_par ?_)
local macro_rules | `(tactic| walk_at "arx") => `(tactic| first
  | omega
  | decide
  | (simp only [List.length_cons, List.length_nil, List.length_map, List.length_append]; omega))
local macro_rules | `(tactic| walk_at "kp") => `(tactic| first
  | assumption
  | exact Kp.refl _
  | (refine Kp.trans ?_ (by assumption); walk_at "kp")
  | (refine Kp.trans ?_ (Ex.kp (by assumption)); walk_at "kp"))
theorem int_mod (a : Int) {m : Int} (h : 0 < m) : 0 ≤ a % m ∧ a % m < m := ⟨Int.emod_nonneg _ (by omega), Int.emod_lt_of_pos _ h⟩
def sp_state (K : PySem.W.Frag) : Sp := fun vs H Q _ => ∃ (a : Addr) (ns : List Int), vs = [.ref a] ∧ SqL K H a (ns.map V.int) ∧ ns.length ≤ 63 ∧ ∀ st c H', Ex H H' → H st = none → H c = none → StOk st c H' → Q (.ref st) H'
theorem ex_sql {H H' : Hp} {a : Addr} {xs : List V} (e : Ex H H') (h : SqL K H a xs) : SqL K H' a xs := e.same.seq h
theorem abs_nn (i : Int) : 0 ≤ (if i < 0 then -i else i) := by split <;> omega
theorem ok_state (T : Glo mg) (D : Dn K mg "_law_state" s__law_state p__law_state) : Cal P w K mg base "_law_state" 1 p__law_state (sp_state K) := by
  refine D.ok sc__law_state (fun vs H Q E h => ?_) (fun f cdv A outer s H vs Q E hr h => ?_)
  · obtain ⟨_, _, rfl, _⟩ := h
    rfl
  obtain ⟨a, ns, rfl, hs, hl, q⟩ := h
  refine ⟨_, (pss_cons (ps_set (i := 1) sc__law_state.nd rfl (by first | exact Or.inl rfl | exact Or.inr rfl) pe_int) (pss_cons (ps_for PassesOwn.never rfl (pi_list (pv 0)) (pg_name (i := 2) sc__law_state.nd rfl (by first | exact Or.inl rfl | exact Or.inr rfl)) (pss_one (ps_set (i := 1) sc__law_state.nd rfl (by first | exact Or.inl rfl | exact Or.inr rfl) (pe_op op_mod (pe_callTy call_intA rfl T.n_int (by decide +kernel) (pa_cons (pe_op op_addA (pe_op op_mul (pv 1) pe_int) (pv 2)) pa_nil)) pe_int)))) (pss_one (ps_ret (pe_lst (pa_cons (pe_lc (own := [("_law_cell", 2)]) (tt := tYes) rfl sc__law_state.nd (pi_list (pv 0)) (blkOk_by (N := ["_law_script", "_law_seed", "_law_cell"]) (sc := defScope s__law_state) (by decide +kernel)) (fun _ _ _ _ _ => (pg_name (i := 2) sc__law_state.nd rfl (by first | exact Or.inl rfl | exact Or.inr rfl))) (fun _ _ _ _ _ => pts_nil) (fun _ _ _ _ _ => (pe_callB call_absA rfl T.n_abs (by decide +kernel) (pa_cons (pv 2) pa_nil)))) (pa_cons (pe_op op_addA (pv 1) pe_int) pa_nil))))))), ?_⟩
  try dsimp only [cxOf, Cx.nox]
  repeat' walk_at "st"
  refine w_list (xs := ns.map V.int) (fun i σ H' => H' = H ∧ ∃ (z : Int) (y : Option V), σ = [some (.ref a), some (.int z), y] ∧ 0 ≤ z ∧ z < 1000003) ?_ ?_ ?_ ?_
  · exact ⟨rfl, 7, none, rfl, by decide, by decide⟩
  · rintro i σ H' _ ⟨rfl, _⟩
    exact hs
  · rintro i x σ H' hx ⟨rfl, z, y, rfl, z0, z1⟩
    rw [List.getElem?_map] at hx
    obtain ⟨n, hn, rfl⟩ := Option.map_eq_some_iff.mp hx
    repeat' walk_at "st"
    refine ⟨rfl, _, some (.int n), rfl, ?_⟩
    exact int_mod _ (by decide)
  · rintro σ H' ⟨rfl, z, y, rfl, z0, z1⟩
    repeat' walk_at "st"
    intro L hL
    refine lc_list (xs := ns.map V.int) (fun i H2 => Ex H' H2 ∧ H2 L = some (.lst ((ns.take i).map fun n => V.int (if n < 0 then -n else n)))) ?_ ?_ ?_ ?_
    · exact ⟨Ex.mk hL rfl, upd_same⟩
    · rintro i H2 _ ⟨e, _⟩
      exact ex_sql e hs
    · rintro i x H2 hx ⟨e, h2⟩
      rw [List.getElem?_map] at hx
      obtain ⟨n, hn, rfl⟩ := Option.map_eq_some_iff.mp hx
      refine ⟨rfl, ?_⟩
      repeat' walk_at "st"
      refine ⟨_, h2, sl1000' ?_, ?_, ?_⟩
      · rw [List.length_map, List.length_take]
        omega
      · intro b u hb
        rw [upd_ne (ne_of_none hb hL)]
        exact e _ _ hb
      · rw [upd_same, List.take_add_one, hn, List.map_append]
        rfl
    · rintro H2 ⟨e, h2⟩
      repeat' walk_at "st"
      rw [List.take_of_length_le (by rw [List.length_map]; exact Nat.le_refl _)] at h2
      refine q p L _ (e.trans ke) (free_back e hp) hL ⟨⟨ns.map fun n => (if n < 0 then -n else n), z + 1, hn, ?_, ?_, by omega, by omega⟩, ?_⟩
      · rw [List.map_map]
        exact ke _ _ h2
      · intro n hn
        obtain ⟨m, _, rfl⟩ := List.mem_map.mp hn
        exact abs_nn m
      · exact ne_of_none h2 hp
def sp_draw : Sp := fun vs H Q _ => ∃ (st c : Addr) (many : Int), vs = [.ref st, .int many] ∧ StOk st c H ∧ 0 < many ∧ many < 1073741824 ∧ ∀ (n : Int) (H' : Hp), 0 ≤ n → n < many → Kp [st, c] H H' → StOk st c H' → Q (.int n) H'
theorem ok_draw (T : Glo mg) (D : Dn K mg "_law_draw" s__law_draw p__law_draw) : Cal P w K mg base "_law_draw" 1 p__law_draw sp_draw := by
  refine D.ok sc__law_draw (fun vs H Q E h => ?_) (fun f cdv A outer s H vs Q E hr h => ?_)
  · obtain ⟨_, _, _, rfl, _⟩ := h
    rfl
  obtain ⟨st, c, many, rfl, ⟨⟨ns, z, hst, hc, hn, z0, z1⟩, hne⟩, m0, m1, q⟩ := h
  refine ⟨_, (pss_cons (ps_set (i := 2) sc__law_draw.nd rfl (by first | exact Or.inl rfl | exact Or.inr rfl) (pe_ix ix_seq (pv 0) pe_int (fun _ _ => rfl))) (pss_cons (ps_while PassesOwn.never (PW.pt (pw_and (pt_cmpR op_gt (pe_callB call_lenA rfl T.n_len (by decide +kernel) (pa_cons (pv 2) pa_nil)) pe_int (nomark _)) (pw_and1 (pt_cmpR (op_eqA (hu64 hr)) (pe_ix ix_seq (pv 2) pe_int (fun _ _ => rfl)) pe_int (nomark _))))) (pss_one (ps_expr (pe_bm PySem.F.plainAttrs_list PySem.F.slot_list_pop PySem.F.type_list_pop mt_popAt (pv 2) (pa_cons pe_int pa_nil))))) (pss_cons (ps_if (pt_cmpR op_gt (pe_callB call_lenA rfl T.n_len (by decide +kernel) (pa_cons (pv 2) pa_nil)) pe_int (nomark _)) (pss_cons (ps_set (i := 4) sc__law_draw.nd rfl (by first | exact Or.inl rfl | exact Or.inr rfl) (pe_ix ix_seq (pv 2) pe_int (fun _ _ => rfl))) (pss_cons (ps_asg (pe_op op_fdiv (pv 4) (pv 1)) (pg_sub (pv 2) pe_int set_list)) (pss_one (ps_ret (pe_op op_mod (pe_callTy call_intA rfl T.n_int (by decide +kernel) (pa_cons (pv 4) pa_nil)) (pv 1)))))) pss_nil) (pss_cons (ps_set (i := 3) sc__law_draw.nd rfl (by first | exact Or.inl rfl | exact Or.inr rfl) (pe_op op_mod (pe_callTy call_intA rfl T.n_int (by decide +kernel) (pa_cons (pe_op op_addA (pe_op op_mul (pe_ix ix_seq (pv 0) pe_int (fun _ _ => rfl)) pe_int) pe_int) pa_nil)) pe_int)) (pss_cons (ps_asg (pv 3) (pg_sub (pv 0) pe_int set_list)) (pss_one (ps_ret (pe_op op_mod (pe_callTy call_intA rfl T.n_int (by decide +kernel) (pa_cons (pe_op op_fdiv (pv 3) pe_int) pa_nil)) (pv 1))))))))), ?_⟩
  try dsimp only [cxOf, Cx.nox]
  repeat' walk_at "st"
  refine w_while (fun m σ H' => ∃ ns' : List Int, m = ns'.length ∧ σ = [some (.ref st), some (.int many), some (.ref c), none, none] ∧ H' st = some (.lst [.ref c, .int z]) ∧ H' c = some (.lst (ns'.map V.int)) ∧ (∀ n ∈ ns', 0 ≤ n) ∧ Kp [st, c] H H') ns.length ⟨ns, rfl, rfl, hst, hc, hn, Kp.refl _⟩ ?_ ?_
  · rintro m σ H' ⟨ns', rfl, rfl, h1, h2, h3, h4⟩
    have mc : c ∈ [st, c] := by simp
    have mst : st ∈ [st, c] := by simp
    have ht : ∀ xs, H' st ≠ some (.tup xs) := fun xs e => by rw [h1] at e; cases e
    have hu : ∀ xs, H' c ≠ some (.tup xs) := fun xs e => by rw [h2] at e; cases e
    cases ns' with
    | nil =>
      repeat' walk_at "st"
      have hz := int_mod (z * 48271 + 12345) (m := 2147483647) (by decide)
      exact q _ Hn (int_mod _ m0).1 (int_mod _ m0).2 (h4.trans (ku.sub fun x hx => by rw [List.mem_singleton.mp hx]; exact mst)) ⟨⟨[], _, hu, ku.out _ _ (nin_c hne List.not_mem_nil) h2, h3, hz.1, Int.lt_trans hz.2 (by decide)⟩, hne⟩
    | cons n r =>
      rw [List.map_cons] at h2
      have hn0 := h3 n (List.mem_cons_self ..)
      have hr0 : ∀ n ∈ r, 0 ≤ n := fun k hk => h3 k (List.mem_cons_of_mem _ hk)
      repeat' walk_at "st"
      · exact ⟨r.length, Nat.lt_succ_self _, r, rfl, rfl, ku.out _ _ (nin_c (Ne.symm hne) List.not_mem_nil) h1, hu, hr0, h4.trans (ku.sub fun x hx => by rw [List.mem_singleton.mp hx]; exact mc)⟩
      · refine q _ Hn (int_mod _ m0).1 (int_mod _ m0).2 (h4.trans (ku.sub fun x hx => by rw [List.mem_singleton.mp hx]; exact mc)) ⟨⟨n / many :: r, z, ku.out _ _ (nin_c (Ne.symm hne) List.not_mem_nil) h1, hu, ?_, z0, z1⟩, hne⟩
        intro k hk
        rcases List.mem_cons.mp hk with rfl | hk
        · exact Int.ediv_nonneg hn0 (by omega)
        · exact hr0 _ hk
  · intro σ H Q Q' hQ h
    exact mo_and (mo_test (mo_op mo_I0 (mo_cb mo_lenA (mo_cons mo_var mo_nil)) mo_c)) (mo_test (mo_op mo_eqA (mo_op mo_ix mo_var mo_c) mo_c)) _ _ _ _ hQ h
theorem c_draw {st c : Addr} {many : Int} {H : Hp} {Q : VK} {E : XK} (h1 : StOk st c H) (h2 : 0 < many ∧ many < 1073741824) (q : ∀ (n : Int) (H' : Hp), 0 ≤ n → n < many → Kp [st, c] H H' → StOk st c H' → Q (.int n) H') :
    sp_draw [.ref st, .int many] H Q E := ⟨st, c, many, rfl, h1, h2.1, h2.2, q⟩
set_option hygiene false in
local macro_rules | `(tactic| walk_at "i_c_draw") => `(tactic| intro dn Hn n0 n1 ke so)
local macro_rules | `(tactic| walk_at "own") => `(tactic| (refine c_draw (c := ?c) ?a ?b ?_; (case a => walk_at "st_ok"); (case b => walk_at "arx2"); walk_at "i_c_draw"))
local macro_rules | `(tactic| walk_at "arx2") => `(tactic| first
  | (refine And.intro ?_ ?_ <;> omega)
  | (simp only [List.length_cons, List.length_nil, List.length_map, List.length_append]; refine And.intro ?_ ?_ <;> omega)
  | (refine And.intro ?_ ?_ <;> decide +kernel))
def sp_pick (K : PySem.W.Frag) : Sp := fun vs H Q _ => ∃ (st c a : Addr) (xs : List V), vs = [.ref st, .ref a] ∧ StOk st c H ∧ H a = some (.lst xs) ∧ a ∉ [st, c] ∧ 0 < xs.length ∧ xs.length < 1000000 ∧ ∀ (i : Nat) (v : V) (H' : Hp), xs[i]? = some v → Kp [st, c] H H' → StOk st c H' → Q v H'
theorem ok_pick (T : Glo mg) (D : Dn K mg "_law_pick" s__law_pick p__law_pick) (G__law_draw : Cal P w K mg base "_law_draw" 1 p__law_draw sp_draw) : Cal P w K mg base "_law_pick" 2 p__law_pick (sp_pick K) := by
  refine D.ok sc__law_pick (fun vs H Q E h => ?_) (fun f cdv A outer s H vs Q E hr h => ?_)
  · obtain ⟨_, _, _, _, rfl, _⟩ := h
    rfl
  obtain ⟨st, c, a, xs, rfl, so, ha, hn, l0, l1, q⟩ := h
  refine ⟨_, (pss_one (ps_ret (pe_ix ix_seq (pv 1) (pe_cal G__law_draw (hr.mono (by walk_at "lev")) rfl (pa_cons (pv 0) (pa_cons (pe_callB call_lenA rfl T.n_len (by decide +kernel) (pa_cons (pv 1) pa_nil)) pa_nil))) (fun _ _ => rfl)))), ?_⟩
  try dsimp only [cxOf, Cx.nox]
  repeat' walk_at "st"
  obtain ⟨v, e1, e2⟩ := at_i (n := dn) n0 n1
  exact q_ixL (sql (ke.out _ _ hn ha)) e2 (q _ v Hn e1 ke so)
theorem c_pick {st c a : Addr} {xs : List V} {H : Hp} {Q : VK} {E : XK} (h1 : StOk st c H) (h2 : H a = some (.lst xs)) (h3 : a ∉ [st, c]) (h4 : 0 < xs.length ∧ xs.length < 1000000) (q : ∀ (i : Nat) (v : V) (H' : Hp), xs[i]? = some v → Kp [st, c] H H' → StOk st c H' → Q v H') :
    sp_pick K [.ref st, .ref a] H Q E := ⟨st, c, a, xs, rfl, h1, h2, h3, h4.1, h4.2, q⟩
set_option hygiene false in
local macro_rules | `(tactic| walk_at "i_c_pick") => `(tactic| intro j v Hn ej ke so)
local macro_rules | `(tactic| walk_at "own") => `(tactic| (refine c_pick (c := ?c) (xs := ?xs) ?a ?b ?e ?d ?_; (case b => walk_at "lift"); (case a => walk_at "st_ok"); (case e => walk_at "nin"); (case d => walk_at "arx2"); walk_at "i_c_pick"))
/-! ### own errors -/
section
variable (P : Program) (w : World) (K : PySem.W.Frag) (mg : Str → Option Value) (base : Heap)
/-- an own error class with one field, as it stands behind the top -/
structure ErrC (x : Str) (C : Addr) (fl : Str) : Prop where
  gC : mg x = some (.ref C)
  ox : OexC K C
  xf : XfC K C
  no : PySem.W.findIn K (.ref C) fl = some none
  cl : (PySem.W.clsIn K C).isSome = true
  ca : PySem.W.findIn K (.ref C) "__class__" = some (some (.builtin "object.__class__"))
  gn : PySem.W.specialIn K (.builtin "object.__class__") "__get__" = some (some (.builtin "getset_descriptor.__get__"))
  tk : PySem.W.takesIn K (.builtin "object.__class__") = some true
  mo : PySem.W.mroIn K C (.type "object") = some true
/-- .. its __init__ -/
def DnE (q : Str) (C : Addr) (st : Stmt) (ps : List Str) : Prop := ∃ f fd, PySem.W.findIn K (.ref C) "__init__" = some (some (.ref f)) ∧ PySem.W.typeIn K (.ref f) = some (.type "function") ∧ Fun K "__init__" q st f fd ∧ Binds K fd ps []
def MakE (C : Addr) (k : Nat) (ps : List Str) (sp : Sp) : Prop := ∃ f fd, PySem.W.findIn K (.ref C) "__init__" = some (some (.ref f)) ∧ PySem.W.typeIn K (.ref f) = some (.type "function") ∧ FnOk P w K mg base CX0 k f fd ps sp ∧ Binds K fd ps []
/-- a def that may raise and keeps its promise -/
def CalX (x : Str) (k : Nat) (ps : List Str) (sp : Sp) : Prop := ∃ f fd, FnOk P w K mg base (L2.CX P w) k f fd ps sp ∧ mg x = some (.ref f) ∧ PySem.W.keepIn K (.ref f) = true ∧ Binds K fd ps []
end
section
variable {P : Program} {w : World} {K : PySem.W.Frag} {mg : Str → Option Value} {base : Heap}
theorem DnE.ok {q : Str} {C : Addr} {st : Stmt} {N ps : List Str} {k : Nat} {sp : Sp} (D : DnE K q C st ps) (S : FnScope N ps (defScope st)) (len : ∀ vs H Q E, sp vs H Q E → vs.length = ps.length)
    (hbody : ∀ (f : Addr) (cdv : Value) (A : Around) (outer : List Env) (s : Shared) (H : Hp) (vs : List V) (Q : VK) (E : XK), Room k (A.deeper (PyProof.Rows.envOfC q (defScope st) s.heap.objs.size f cdv)) → sp vs H Q E →
      ∃ t, PSs (cxOf CX0 P w K mg base N q (defScope st) f cdv A outer s H E).nox (defBody st) t ∧ t { nx := fun _ H' => Q .non H', rt := Q } (start N vs) H) : MakE P w K mg base C (k + 1) ps sp := by
  obtain ⟨f, fd, i, t, F, b⟩ := D
  exact ⟨f, fd, i, t, F.ok S len (hbody f), b⟩
theorem Dn.okX {x : Str} {st : Stmt} {N ps : List Str} {k : Nat} {sp : Sp} (D : Dn K mg x st ps) (S : FnScope N ps (defScope st)) (len : ∀ vs H Q E, sp vs H Q E → vs.length = ps.length)
    (hbody : ∀ (f : Addr) (cdv : Value) (A : Around) (outer : List Env) (s : Shared) (H : Hp) (vs : List V) (Q : VK) (E : XK), Room k (A.deeper (PyProof.Rows.envOfC x (defScope st) s.heap.objs.size f cdv)) → sp vs H Q E →
      ∃ t, PSs (cxOf (L2.CX P w) P w K mg base N x (defScope st) f cdv A outer s H E) (defBody st) t ∧ t { nx := fun _ H' => Q .non H', rt := Q } (start N vs) H) : CalX P w K mg base x (k + 1) ps sp := by
  obtain ⟨f, fd, F, m, b⟩ := D
  exact ⟨f, fd, F.okX S len (hbody f), m, F.kp, b⟩
theorem pe_calX {X : Cx} {x : Str} {k : Nat} {ps : List Str} {sp : Sp} {W : WX} {e : Expr} {es : List Expr} {t : TA} {p pos : Pos} (G : CalX X.prog X.w X.K X.mg X.base x k ps sp) (hr : Room k X.A) (hg : Gl X x) (tk : Takes X W) (ha : PA X (e :: es) t)
    (hdb : (x == ("__debug__" : Str)) = false := by decide) (he : starEach (e :: es) X.env = (false, eval e X.env) :: starEach es X.env := by rfl) (hpl : (backTo pos (starEach es X.env)).any (·.1) = false := by rfl) : PE X (.Call (.Name x p) (e :: es) [] pos) (tCallS sp (WE W) t) := by
  obtain ⟨f, fd, F, m, kp, b⟩ := G
  exact pe_callS F hr hg m kp b (fun σ => passAt tk σ) ha hdb he hpl
theorem takes_def {N : List Str} {x : Str} {sc : Scope} {f : Addr} {cdv : Value} {A : Around} {outer : List Env} {s : Shared} {H : Hp} {E : XK} : Takes (cxOf (L2.CX P w) P w K mg base N x sc f cdv A outer s H E) (fun cls d _ H => E cls d H) := takes_of rfl rfl rfl rfl
theorem passes_def {N : List Str} {x : Str} {sc : Scope} {f : Addr} {cdv : Value} {A : Around} {outer : List Env} {s : Shared} {H : Hp} {E : XK} : PassesOwn (model P w) (cxOf (L2.CX P w) P w K mg base N x sc f cdv A outer s H E).A (cxOf (L2.CX P w) P w K mg base N x sc f cdv A outer s H E).env (cxOf (L2.CX P w) P w K mg base N x sc f cdv A outer s H E).xe := passes_of rfl
theorem hum {A : Around} {k : Nat} {x : Option Value} (hr : Room k A) : (A.mark x).units + 64 < cLine := by
  have h := hu64 hr
  exact h
/-- arguments, with what follows weakened -/
def clo (ta : TA) : TA := fun σ H Q => ∃ Q1 : List V → Hp → Prop, ta σ H Q1 ∧ ∀ vs H1, Q1 vs H1 → Q vs H1
theorem pa_clo {X : Cx} {es : List Expr} {ta : TA} (h : PA X es ta) : PA X es (clo ta) := ⟨fun pos pins s σ H Q I ⟨Q1, h1, k⟩ => thn (h.run pos pins s σ H Q1 I h1) fun us s1 ⟨vs, H1, I1, r, q⟩ => ⟨vs, H1, I1, r, k _ _ q⟩⟩
/-- what the making of an own error hands on -/
def errK (C : Addr) (fl : Str) (Q : XK) (vs : List V) (H : Hp) : Prop := ∃ v, vs = [v] ∧ ∀ d H2, H d = none → Ex H H2 → H2 d = some (.xd [(fl, v)]) → Q (.ref C) (some d) H2
def tErr (C : Addr) (fl : Str) (ta : TA) : L2.St → Hp → XK → Prop := fun σ H Q => ta σ H fun vs H1 => errK C fl Q vs H1
def sp_einit (C : Addr) (fl : Str) : Sp := fun vs H Q _ => ∃ (a : Addr) (v : V), vs = [.ref a, v] ∧ H a = some (exo a C none) ∧ ∀ dx, H dx = none → dx ≠ a → Q .non (upd (upd H dx (exd dx [(fl, v)])) a (exo a C (some dx)))
theorem pmk_err {X : Cx} {x fl : Str} {C : Addr} {k : Nat} {ps : List Str} {e : Expr} {es : List Expr} {ta : TA} {p pos : Pos} (T : ErrC X.K X.mg x C fl) (G : MakE X.prog X.w X.K X.mg X.base C k ps (sp_einit C fl)) (hr : Room (k + 1) X.A) (hg : Gl X x) (ha : PA X (e :: es) ta)
    (hdb : (x == ("__debug__" : Str)) = false := by decide) (he : starEach (e :: es) X.env = (false, eval e X.env) :: starEach es X.env := by rfl) (hpl : (backTo pos (starEach es X.env)).any (·.1) = false := by rfl) : PMk X (.Call (.Name x p) (e :: es) [] pos) (tErr C fl ta) := by
  obtain ⟨f, fd, i, t, F, b⟩ := G
  intro pins s σ H Q I h
  refine pmk_oex T.ox i t F hr b .nil pass0 hg T.gC (pa_clo ha) hdb he hpl pins s σ H Q I ⟨_, h, ?_⟩
  rintro vs H1 ⟨v, rfl, q⟩
  refine ⟨(by show 1 ≤ 1000; decide), fun a ha => ⟨a, v, rfl, upd_same, fun dx n ne => ⟨rfl, dx, [(fl, v)], upd_same, ?_, ?_, ?_⟩⟩⟩
  · rw [upd_ne ne]
    exact upd_same
  · rw [upd_ne ne] at n
    exact n
  · rw [upd_ne ne] at n
    refine q dx _ n (fun b o hb => ?_) upd_same
    rw [upd_ne (ne_of_none hb n), del_ne (ne_of_none hb ha), upd_ne (ne_of_none hb ha), upd_ne (ne_of_none hb n), upd_ne (ne_of_none hb ha)]
    exact hb
/-- raise C(e) -/
def tRaiseE (C : Addr) (fl : Str) (W : WX) (ta : TA) : TS := fun _ σ H => tErr C fl ta σ H fun cls d H' => W cls d σ H'
theorem ps_err {X : Cx} {x fl : Str} {C : Addr} {k : Nat} {ps : List Str} {W : WX} {e : Expr} {ta : TA} {p pos pos' : Pos} (hc : X.calm = true) (tk : Takes X W) (T : ErrC X.K X.mg x C fl) (G : MakE X.prog X.w X.K X.mg X.base C k ps (sp_einit C fl)) (hr : Room (k + 1) X.A) (hg : Gl X x) (ha : PA X [e] ta)
    (hdb : (x == ("__debug__" : Str)) = false := by decide) (he : starEach [e] X.env = (false, eval e X.env) :: starEach [] X.env := by rfl) (hpl : (backTo pos (starEach [] X.env)).any (·.1) = false := by rfl) :
    PS X (.Raise (some (.Call (.Name x p) [e] [] pos)) none pos') (tRaiseE C fl W ta) := ps_raise hc tk (pmk_err T G hr hg ha hdb he hpl)
/-- e.f, e the error that the suite holds -/
def tXfE (K : PySem.W.Frag) (a : Addr) (cls : Value) (d : Option Addr) (f : Str) (te : TE) : TE := fun σ H Q => ∃ C, XfC K C ∧ PySem.W.findIn K (.ref C) f = some none ∧ tXf a cls d C f te σ H Q
theorem pe_xfE {X : Cx} {a : Addr} {oe : Obj} {cls : Value} {d : Option Addr} {pn : List (Addr × Obj)} {e : Expr} {te : TE} {pos : Pos} {n : Str} (hz : Zc cls d oe) (hf : ∃ vs, oe.data = .fields vs) (he : PE (X.suite a ((a, oe) :: pn)) e te)
    (hb : attributeBase e n X.env (eval e X.env) = eval e X.env := by rfl) : PE (X.suite a ((a, oe) :: pn)) (.Attribute e n pos) (tXfE X.K a cls d n te) :=
  ⟨fun pins s σ H Q I ⟨_, x, no, h⟩ => (pe_xf x no hz hf he hb).run pins s σ H Q I h⟩
/-- isinstance(e, c) of it -/
def rIsX (K : PySem.W.Frag) (a : Addr) (cls : Value) (d : Option Addr) : List V → Hp → VK → Prop := fun xs H Q => ∃ (D dd : Addr) (x fl : Str) (mg : Str → Option Value) (fs : List (Str × V)) (c : V) (cv : Value) (b : Bool), cls = .ref D ∧ d = some dd ∧ ErrC K mg x D fl ∧ H dd = some (.xd fs) ∧ xs = [.ref a, c] ∧ (∀ u, RelV c u → u = cv) ∧
  PySem.W.kitOne K (.ref D) cv = some b ∧ Q (.bl b) H
theorem call_isX {X : Cx} {a : Addr} {oe : Obj} {cls : Value} {d : Option Addr} {pn : List (Addr × Obj)} (hz : Zc cls d oe) (hf : ∃ vs, oe.data = .fields vs) : CallR (X.suite a ((a, oe) :: pn)) (.builtin "isinstance") (rIsX X.K a cls d) := by
  intro pins s σ H xs us Q I r h
  obtain ⟨D, dd, x, fl, mg, fs, c, cv, b, rfl, rfl, T, hdd, rfl, hcv, e, q⟩ := h
  cases r with
  | cons rx rr =>
    cases rr with
    | cons rt rr =>
      cases rr
      cases rx
      obtain rfl := hcv _ rt
      have hp := (I.pin (a, oe) (List.mem_append_left _ List.mem_cons_self)).1
      obtain ⟨vs, hv⟩ := hf
      have hx : ObjOk X.prog X.w H s.heap dd (.xd fs) := I.hok dd _ hdd
      obtain ⟨mA, hns, _⟩ := hx
      obtain ⟨od, ho, _⟩ := lookIn_ns hns
      have J : PySem.W.InstAt s.heap a oe D (some od) := ⟨hp, hz.1, by unfold PySem.W.notCls; rw [hv], by rw [hz.2]; exact ho⟩
      exact PySem.W.kia_one (PySem.W.kitx_exc T.cl T.xf.ga T.xf.gg T.xf.exC T.ca T.gn T.tk T.mo) I.kIn J e (fun z => nomatch z) fun tk => ⟨.bl b, H, I.kept (t' := tk) fun _ _ z => z, rfl, q⟩
theorem exm_own {C D : Addr} (hs : PySem.W.subIn K (.ref D) (.type "BaseException") = some true) (hi : PySem.W.isClsIn K D = true) (ht : PySem.W.typeIn K (.ref D) = some (.type "type")) {b : Bool} (h : PySem.W.subIn K (.ref C) (.ref D) = some b) : PySem.W.exmOne K (.ref C) (.ref D) = some b := by
  have e1 : (PySem.W.subIn K (.ref D) (.type "BaseException") == some true) = true := by rw [hs]; rfl
  have h2 : (PySem.W.clsIn K D).isSome = true := hi
  have e2 : ((PySem.W.clsIn K D).isSome && PySem.W.typeIn K (.ref D) == some (.type "type")) = true := by rw [h2, ht]; rfl
  show (if _ then (if _ then _ else none) else none) = some b
  rw [if_pos e1, if_pos e2]
  exact h
end
section
variable {K : PySem.W.Frag} {σ : L2.St} {H : Hp} {Q : VK} {te : TE} {tr : TA} {C : Addr} {fl : Str} {W : WX} {D : Ends}
theorem r_callS {sp : Sp} (q : tr σ H fun vs H1 => sp vs H1 Q (WE W σ)) : tCallS sp (WE W) tr σ H Q := q
def raiK (C : Addr) (fl : Str) (W : WX) (σ : L2.St) (vs : List V) (H : Hp) : Prop := errK C fl (fun cls d H' => W cls d σ H') vs H
theorem r_raise (q : tr σ H fun vs H1 => raiK C fl W σ vs H1) : tRaiseE C fl W tr D σ H := q
theorem q_raise {v : V} (q : ∀ d H2, H d = none → Ex H H2 → H2 d = some (.xd [(fl, v)]) → W (.ref C) (some d) σ H2) : raiK C fl W σ [v] H := ⟨v, rfl, q⟩
theorem r_try {tb : WX → TS} {W : Ends → WX} (q : tb (W D) D σ H) : (fun D σ H => tb (W D) D σ H) D σ H := q
def xfK (K : PySem.W.Frag) (a : Addr) (cls : Value) (d : Option Addr) (f : Str) (Q : VK) (x : V) (H : Hp) : Prop := x = .ref a ∧ ∃ (C dd : Addr) (fs : List (Str × V)) (v : V), cls = .ref C ∧ XfC K C ∧ PySem.W.findIn K (.ref C) f = some none ∧ d = some dd ∧ H dd = some (.xd fs) ∧ fs.lookup f = some v ∧ Q v H
theorem q_isX {a D dd : Addr} {x fl : Str} {mg : Str → Option Value} {fs : List (Str × V)} {c : V} {cv : Value} {b : Bool} (T : ErrC K mg x D fl) (h : H dd = some (.xd fs)) (hc : ∀ u, RelV c u → u = cv) (e : PySem.W.kitOne K (.ref D) cv = some b) (q : Q (.bl b) H) :
    rIsX K a (.ref D) (some dd) [.ref a, c] H Q := ⟨D, dd, x, fl, mg, fs, c, cv, b, rfl, rfl, T, h, rfl, hc, e, q⟩
/-- e.f where e stands in a slot -/
theorem q_xfE {a C dd : Addr} {f : Str} {fs : List (Str × V)} {v : V} {i : Nat} (hi : σ[i]? = some (some (.ref a))) (x : XfC K C) (no : PySem.W.findIn K (.ref C) f = some none) (h : H dd = some (.xd fs)) (l : fs.lookup f = some v) (q : Q v H) : tXfE K a (.ref C) (some dd) f (tVar i) σ H Q :=
  ⟨C, x, no, .ref a, hi, rfl, rfl, dd, fs, v, rfl, h, l, q⟩
end
local macro_rules | `(tactic| walk_at "own") => `(tactic| first
  | with_reducible refine r_callS ?_
  | with_reducible refine r_raise ?_
  | with_reducible refine q_raise ?_)
/-! ### methods that may raise -/
section
variable (P : Program) (w : World) (K : PySem.W.Frag) (mg : Str → Option Value) (base : Heap)
def MetX (C : Addr) (m : Str) (k : Nat) (ps : List Str) (sp : Sp) : Prop := ∃ f fd, Cls K C ∧ Meth K C m f ∧ FnOk P w K mg base (L2.CX P w) k f fd ps sp ∧ Binds K fd ps []
end
section
variable {P : Program} {w : World} {K : PySem.W.Frag} {mg : Str → Option Value} {base : Heap}
theorem DnM.okX {C : Addr} {m q : Str} {st : Stmt} {N ps : List Str} {k : Nat} {sp : Sp} (D : DnM K C m q st ps) (S : FnScope N ps (defScope st)) (len : ∀ vs H Q E, sp vs H Q E → vs.length = ps.length)
    (hbody : ∀ (f : Addr) (cdv : Value) (A : Around) (outer : List Env) (s : Shared) (H : Hp) (vs : List V) (Q : VK) (E : XK), Room k (A.deeper (PyProof.Rows.envOfC q (defScope st) s.heap.objs.size f cdv)) → sp vs H Q E →
      ∃ t, PSs (cxOf (L2.CX P w) P w K mg base N q (defScope st) f cdv A outer s H E) (defBody st) t ∧ t { nx := fun _ H' => Q .non H', rt := Q } (start N vs) H) : MetX P w K mg base C m (k + 1) ps sp := by
  obtain ⟨f, fd, c, me, F, b⟩ := D
  exact ⟨f, fd, c, me, F.okX S len (hbody f), b⟩
def tMtX (C : Addr) (m : Str) (sp : Sp) (E : L2.St → XK) (ta : TE) (t : TA) : TE := fun σ H Q => ta σ H fun x H1 => ∃ a dx fs, x = .ref a ∧ H1 a = some (.ins C dx fs) ∧ fs.lookup m = none ∧ t σ H1 fun vs H2 => sp (x :: vs) H2 Q (E σ)
theorem pe_mtX {X : Cx} {C : Addr} {m : Str} {k : Nat} {ps : List Str} {sp : Sp} {W : WX} {o e : Expr} {es : List Expr} {ta : TE} {t : TA} {apos pos : Pos} {pl : Sem Bool} (G : MetX X.prog X.w X.K X.mg X.base C m k ps sp) (hr : Room k X.A) (tk : Takes X W) (he : PE X o ta) (ha : PA X (e :: es) t)
    (hst : starEach (e :: es) X.env = (false, eval e X.env) :: starEach es X.env := by rfl) (hpl : (backTo pos (starEach es X.env)).any (·.1) = false := by rfl)
    (ht : eval (.Call (.Attribute o m apos) (e :: es) [] pos) X.env = (do
      let ov ← eval o X.env
      standAt apos.atName
      let (f, first) ← holding [ov] (getMethod ov m pl)
      callWith pos f first (backTo pos (starEach (e :: es) X.env)) (backToKw pos (keywordEach [] X.env))) := by rfl) :
    PE X (.Call (.Attribute o m apos) (e :: es) [] pos) (tMtX C m sp (WE W) ta t) := by
  obtain ⟨f, fd, c, hm, F, hb⟩ := G
  refine ⟨fun pins s σ H Q I h => ?_⟩
  refine PySem.W.methodCall_KW (pl := pl) (thn (he.run pins s σ H _ I h) fun u s1 ⟨x, H1, I1, rx, a, dx, fs, ex, ea, l, q⟩ => ?_) ht
  subst ex
  obtain rfl : u = Value.ref a := rx
  refine getmeth_ok I1 ea c hm l ?_
  refine PySem.W.callWith_K (first := [.ref a]) (h₀ := X.base) I.ok.mod.kin hm.kp (thn (ha.run pos pins s1 σ H1 _ I1 q) fun us s2 ⟨vs, H2, I2, r, q2⟩ => ⟨I2.kIn, ?_⟩) hst hpl
  exact run_fnS (us := .ref a :: us) (vs := .ref a :: vs) F hr hb (passAt tk σ) I2 (.cons rfl r) q2
end
section
variable {K : PySem.W.Frag} {σ : L2.St} {H : Hp} {Q : VK} {v x y : V} {te tb : TE} {tr : TA} {C : Addr} {f : Str} {nx bk ct : L2.St → Hp → Prop} {rt : VK}
def mtxK (C : Addr) (m : Str) (sp : Sp) (E : L2.St → XK) (tr : TA) (σ : L2.St) (Q : VK) (x : V) (H : Hp) : Prop := ∃ a dx fs, x = .ref a ∧ H a = some (.ins C dx fs) ∧ fs.lookup m = none ∧ tr σ H fun vs H2 => sp (x :: vs) H2 Q (E σ)
theorem r_mtX {m : Str} {sp : Sp} {E : L2.St → XK} (q : te σ H fun x H1 => mtxK C m sp E tr σ Q x H1) : tMtX C m sp E te tr σ H Q := q
theorem q_mtX {m : Str} {sp : Sp} {E : L2.St → XK} {a dx : Addr} {fs : List (Str × V)} (h : H a = some (.ins C dx fs)) (l : fs.lookup m = none) (q : tr σ H fun vs H2 => sp (.ref a :: vs) H2 Q (E σ)) : mtxK C m sp E tr σ Q (.ref a) H := ⟨a, dx, fs, rfl, h, l, q⟩
theorem pe_mkC0 {X : Cx} {x : Str} {C : Addr} {k : Nat} {ps : List Str} {sp : Sp} {p pos : Pos} (G : MakC X.prog X.w X.K X.mg X.base x C k ps sp) (hr : Room (k + 1) X.A) (hg : Gl X x)
    (hdb : (x == ("__debug__" : Str)) = false := by decide) : PE X (.Call (.Name x p) [] [] pos) (tMake C sp [] E0 tNil) := by
  obtain ⟨f, fd, mk, F, m, b⟩ := G
  exact pe_make0 mk F hr hg m b .nil pass0 hdb
/-! ### xs[a:c] = ys -/
def gSlc (to : TE) (tl th : TO) : TG := fun v σ H Q => to σ H fun x H1 => tl σ H1 fun l H2 => th σ H2 fun u H3 => ∃ (p b : Addr) (xs ys : List V) (a c : Int), x = .ref p ∧ v = .ref b ∧ l = some a ∧ u = some c ∧ H3 p = some (.lst xs) ∧ H3 b = some (.lst ys) ∧ p ≠ b ∧ 0 ≤ a ∧ a ≤ c ∧ c ≤ xs.length ∧ xs.length + ys.length ≤ sizeLine ∧
  Q σ (upd H3 p (.lst (xs.take a.toNat ++ ys ++ xs.drop c.toNat)))
theorem pg_slice {X : Cx} {o lo hi : Expr} {to : TE} {tl th : TO} {p2 pos : Pos} (ho : PE X o to) (hl : PO X (some lo) tl) (hu : PO X (some hi) th)
    (ha : ∀ v, assign (.Subscript o (.Slice (some lo) (some hi) none p2) pos) X.env v = (do
      let ov ← holding [v] (eval o X.env)
      let iv ← holding [v, ov] (eval (.Slice (some lo) (some hi) none p2) X.env)
      standAt pos
      holding [v, ov, iv] (setItem ov iv v)
      release [iv, v, ov] []) := by intro _; rfl) : PG X (.Subscript o (.Slice (some lo) (some hi) none p2) pos) (gSlc to tl th) := by
  refine ⟨fun pins s σ H v u Q I r h => ?_⟩
  rw [ha]
  refine wpAny_bind (wpAny_holding (thn (ho.run pins s σ H _ I h) fun ov s1 ⟨x, H1, I1, r1, q1⟩ => ?_))
  refine wpAny_bind (wpAny_holding ?_)
  refine wpAny_Slice (thn (hl.run pins s1 σ H1 _ I1 q1) fun vl s2 ⟨l, H2, I2, pl, q2⟩ => thn (hu.run pins s2 σ H2 _ I2 q2) fun vu s3 ⟨w, H3, I3, pu, q3⟩ => ?_)
  rw [evalPart_none]
  refine wpAny_pure ?_
  obtain ⟨p, b, xs, ys, a, c, rfl, rfl, rfl, rfl, hp, hb, ne, h0, hac, hc, hz, q⟩ := q3
  obtain rfl : ov = Value.ref p := r1
  obtain rfl : u = Value.ref b := r
  have I4 : Inv X pins σ H3 { s3 with heap := s3.heap.push { cls := .type "slice", data := .fields #[vl, vu, .none] } } := I3.kept (t' := s3.toks) fun b ob q => Heap.get?_push_of_some _ q
  have ra : RelV (.int a) vl := by cases pl with | int i t => exact ⟨t, rfl⟩
  have rc : RelV (.int c) vu := by cases pu with | int i t => exact ⟨t, rfl⟩
  refine wpAny_bind (wpAny_standAt (wpAny_bind (wpAny_holding (set_slice I4 hp hb ne (Heap.IsSliceOf.new ..) ra rc h0 hac hc hz fun s' I' => ?_))))
  exact wpAny_release ⟨σ, _, I', q⟩
def slcK (N : Hp → Prop) (x v : V) (l u : Option Int) (H : Hp) : Prop := ∃ (p b : Addr) (xs ys : List V) (a c : Int), x = .ref p ∧ v = .ref b ∧ l = some a ∧ u = some c ∧ H p = some (.lst xs) ∧ H b = some (.lst ys) ∧ p ≠ b ∧ 0 ≤ a ∧ a ≤ c ∧ c ≤ xs.length ∧ xs.length + ys.length ≤ sizeLine ∧
  N (upd H p (.lst (xs.take a.toNat ++ ys ++ xs.drop c.toNat)))
theorem r_gslc {to : TE} {tl th : TO} {QS : L2.St → Hp → Prop} (q : to σ H fun x H1 => tl σ H1 fun l H2 => th σ H2 fun u H3 => slcK (QS σ) x v l u H3) : gSlc to tl th v σ H QS := q
theorem q_gslc {N : Hp → Prop} {p b : Addr} {xs ys : List V} {a c : Int} (h : H p = some (.lst xs)) (h2 : H b = some (.lst ys)) (ne : p ≠ b) (h0 : 0 ≤ a) (hac : a ≤ c) (hc : c ≤ xs.length) (hz : xs.length + ys.length ≤ 100000)
    (q : ∀ Hn, Kp [p] H Hn → Hn p = some (.lst (xs.take a.toNat ++ ys ++ xs.drop c.toNat)) → N Hn) : slcK N (.ref p) (.ref b) (some a) (some c) H :=
  ⟨p, b, xs, ys, a, c, rfl, rfl, rfl, rfl, h, h2, ne, h0, hac, hc, sl1000 hz, q _ (kp_one h (by intro _ z; cases z)) upd_same⟩
end
local macro_rules | `(tactic| walk_at "own") => `(tactic| first
  | with_reducible refine r_mtX ?_
  | ((with_reducible refine q_mtX (dx := ?dx) (fs := ?fs) ?h ?l ?_); (case h => walk_at "lift"); (case l => walk_at "lk"))
  | with_reducible refine r_gslc ?_)
theorem q_subF {i j : Int} {H : Hp} {Q : VK} (q : Q (.int (i - j)) H) : rSub (.int i) (.int j) H Q := ⟨i, j, rfl, rfl, q⟩
theorem q_afin {C : Addr} {f : Str} {z : V} {N : Hp → Prop} {H : Hp} {a dx : Addr} {fs fs' : List (Str × V)} (h : H a = some (.ins C dx fs)) (l : fs.length < 1000) (e : putF f z fs = fs') (q : ∀ Hn, Kp [a] H Hn → Hn a = some (.ins C dx fs') → N Hn) :
    ∃ dx' fs'', H a = some (.ins C dx' fs'') ∧ fs''.length < 1000 ∧ N (upd H a (.ins C dx' (putF f z fs''))) := ⟨dx, fs, h, l, by rw [e]; exact q _ (kp_one h (by intro _ z; cases z)) upd_same⟩
local macro_rules | `(tactic| walk_at "own") => `(tactic| first
  | with_reducible refine q_subF ?_
  | ((with_reducible refine q_afin (dx := ?dx) (fs := ?fs) (fs' := ?fs') ?h ?l ?e ?_); (case h => walk_at "lift"); (case l => walk_at "len2"); (case e => walk_at "putx"); walk_at "i_upd"))
/-! ### data whose lists are not among M -/
mutual
inductive DpM (M : List Addr) (H : Hp) : V → PyData → Prop
  | non : DpM M H .non .none
  | bl (b : Bool) : DpM M H (.bl b) (.bool b)
  | int (i : Int) : DpM M H (.int i) (.int i)
  | str (x : Str) : DpM M H (.str x) (.str x)
  | lst {a : Addr} {xs : List V} {ds : List PyData} : a ∉ M → H a = some (.lst xs) → DpMs M H xs ds → DpM M H (.ref a) (.list ds)
  | tup {a : Addr} {xs : List V} {ds : List PyData} : H a = some (.tup xs) → DpMs M H xs ds → DpM M H (.ref a) (.tuple ds)
inductive DpMs (M : List Addr) (H : Hp) : List V → List PyData → Prop
  | nil : DpMs M H [] []
  | cons {v : V} {vs : List V} {d : PyData} {ds : List PyData} : DpM M H v d → DpMs M H vs ds → DpMs M H (v :: vs) (d :: ds)
end
mutual
theorem dpm_kp {M N : List Addr} {H H' : Hp} (e : Kp N H H') (s : ∀ x, x ∈ N → x ∈ M) : ∀ {v : V} {d : PyData}, DpM M H v d → DpM M H' v d
  | _, _, .non => .non
  | _, _, .bl b => .bl b
  | _, _, .int i => .int i
  | _, _, .str x => .str x
  | _, _, .lst n h t => .lst n (e.out _ _ (fun z => n (s _ z)) h) (dpms_kp e s t)
  | _, _, .tup h t => .tup (e.tup _ _ h) (dpms_kp e s t)
theorem dpms_kp {M N : List Addr} {H H' : Hp} (e : Kp N H H') (s : ∀ x, x ∈ N → x ∈ M) : ∀ {vs : List V} {ds : List PyData}, DpMs M H vs ds → DpMs M H' vs ds
  | _, _, .nil => .nil
  | _, _, .cons h t => .cons (dpm_kp e s h) (dpms_kp e s t)
end
mutual
theorem dpm_dp {M : List Addr} {K : PySem.W.Frag} {H : Hp} : ∀ {v : V} {d : PyData}, DpM M H v d → Dp K H v d
  | _, _, .non => .non
  | _, _, .bl b => .bl b
  | _, _, .int i => .int i
  | _, _, .str x => .str x
  | _, _, .lst n h t => .lst (sql h) (dpms_dp t)
  | _, _, .tup h t => .tup (sqt h) (dpms_dp t)
theorem dpms_dp {M : List Addr} {K : PySem.W.Frag} {H : Hp} : ∀ {vs : List V} {ds : List PyData}, DpMs M H vs ds → DpAll K H vs ds
  | _, _, .nil => .nil
  | _, _, .cons h t => .cons (dpm_dp h) (dpms_dp t)
end
theorem dpms_app {M : List Addr} {H : Hp} : ∀ {vs ws : List V} {ds es : List PyData}, DpMs M H vs ds → DpMs M H ws es → DpMs M H (vs ++ ws) (ds ++ es)
  | _, _, _, _, .nil, h => h
  | _, _, _, _, .cons a t, h => .cons a (dpms_app t h)
theorem dpms_one {M : List Addr} {H : Hp} {v : V} {d : PyData} (h : DpM M H v d) : DpMs M H [v] [d] := .cons h .nil
theorem dpms_ints {M : List Addr} {H : Hp} : ∀ ns : List Int, DpMs M H (ns.map V.int) (fInts ns)
  | [] => .nil
  | n :: r => .cons (.int n) (dpms_ints r)
theorem dpms_len {M : List Addr} {H : Hp} : ∀ {vs : List V} {ds : List PyData}, DpMs M H vs ds → vs.length = ds.length
  | _, _, .nil => rfl
  | _, _, .cons _ t => by rw [List.length_cons, List.length_cons, dpms_len t]
/-- what M holds stands -/
def Mo (M : List Addr) (H : Hp) : Prop := ∀ x, x ∈ M → H x ≠ none
theorem Mo.new {M : List Addr} {H : Hp} {p : Addr} (m : Mo M H) (h : H p = none) : p ∉ M := fun z => m p z h
theorem ex_dom {H H' : Hp} (e : Ex H H') {x : Addr} (h : H x ≠ none) : H' x ≠ none := fun z => by
  cases h1 : H x with
  | none => exact h h1
  | some o => rw [e _ _ h1] at z; cases z
theorem mo_ex {M : List Addr} {H H' : Hp} (e : Ex H H') (m : Mo M H) : Mo M H' := fun x hx => ex_dom e (m x hx)
/-- one object changed, the others stay -/
theorem kp_dom {N : List Addr} {H H' : Hp} (e : Kp N H H') (n : ∀ x, x ∈ N → H' x ≠ none) {x : Addr} (h : H x ≠ none) : H' x ≠ none := fun z => by
  by_cases hx : x ∈ N
  · exact n x hx z
  · cases h1 : H x with
    | none => exact h h1
    | some o => rw [e.out _ _ hx h1] at z; cases z
theorem mo_kp {M N : List Addr} {H H' : Hp} (e : Kp N H H') (n : ∀ x, x ∈ N → H' x ≠ none) (m : Mo M H) : Mo M H' := fun x hx => kp_dom e n (m x hx)
theorem kp_new {p : Addr} {H H' : Hp} (e : Kp [p] H H') : ∀ {H0 : Hp}, Ex H0 H → H0 p = none → Ex H0 H' := fun k hp a o h => e.out a o (by
  intro z
  rw [List.mem_singleton.mp z, hp] at h
  cases h) (k a o h)
mutual
theorem dpm_sub {M N : List Addr} {H : Hp} (s : ∀ x, x ∈ N → x ∈ M) : ∀ {v : V} {d : PyData}, DpM M H v d → DpM N H v d
  | _, _, .non => .non
  | _, _, .bl b => .bl b
  | _, _, .int i => .int i
  | _, _, .str x => .str x
  | _, _, .lst n h t => .lst (fun z => n (s _ z)) h (dpms_sub s t)
  | _, _, .tup h t => .tup h (dpms_sub s t)
theorem dpms_sub {M N : List Addr} {H : Hp} (s : ∀ x, x ∈ N → x ∈ M) : ∀ {vs : List V} {ds : List PyData}, DpMs M H vs ds → DpMs N H vs ds
  | _, _, .nil => .nil
  | _, _, .cons h t => .cons (dpm_sub s h) (dpms_sub s t)
end
theorem dpm_ex {M : List Addr} {H H' : Hp} (e : Ex H H') {v : V} {d : PyData} (h : DpM M H v d) : DpM M H' v d := dpm_kp (N := []) e.kp (fun _ z => absurd z List.not_mem_nil) h
theorem dpms_ex {M : List Addr} {H H' : Hp} (e : Ex H H') {vs : List V} {ds : List PyData} (h : DpMs M H vs ds) : DpMs M H' vs ds := dpms_kp (N := []) e.kp (fun _ z => absurd z List.not_mem_nil) h
theorem sub_hd {D : Addr} {M : List Addr} : ∀ x, x ∈ [D] → x ∈ D :: M := fun x h => by rw [List.mem_singleton.mp h]; exact List.mem_cons_self ..
theorem sub_tl {D : Addr} {M : List Addr} : ∀ x, x ∈ M → x ∈ D :: M := fun x h => List.mem_cons_of_mem _ h
theorem sub_mem {D : Addr} {M : List Addr} (m : D ∈ M) : ∀ x, x ∈ [D] → x ∈ M := fun x h => by rw [List.mem_singleton.mp h]; exact m
theorem mo_add {D : Addr} {M : List Addr} {H : Hp} (h : H D ≠ none) (m : Mo M H) : Mo (D :: M) H := fun x hx => by
  rcases List.mem_cons.mp hx with rfl | hx
  · exact h
  · exact m x hx
theorem mo_kp1 {p : Addr} {M : List Addr} {H H' : Hp} {o : HO} (e : Kp [p] H H') (h : H' p = some o) (m : Mo M H) : Mo M H' := mo_kp e (fun x hx => by rw [List.mem_singleton.mp hx]; exact fsome h) m
mutual
theorem dpm_add {M : List Addr} {H : Hp} {p : Addr} (n : H p = none) : ∀ {v : V} {d : PyData}, DpM M H v d → DpM (p :: M) H v d
  | _, _, .non => .non
  | _, _, .bl b => .bl b
  | _, _, .int i => .int i
  | _, _, .str x => .str x
  | _, _, .lst m h t => .lst (nin_c (ne_of_none h n) m) h (dpms_add n t)
  | _, _, .tup h t => .tup h (dpms_add n t)
theorem dpms_add {M : List Addr} {H : Hp} {p : Addr} (n : H p = none) : ∀ {vs : List V} {ds : List PyData}, DpMs M H vs ds → DpMs (p :: M) H vs ds
  | _, _, .nil => .nil
  | _, _, .cons h t => .cons (dpm_add n h) (dpms_add n t)
end
theorem dpms_at {M : List Addr} {H : Hp} : ∀ {vs : List V} {ds : List PyData} {i : Nat} {v : V}, DpMs M H vs ds → vs[i]? = some v → ∃ d, ds[i]? = some d ∧ DpM M H v d
  | _, _, _, _, .nil, h => by simp at h
  | _, _, 0, _, .cons a t, h => by
    simp at h
    subst h
    exact ⟨_, rfl, a⟩
  | _, _, i + 1, _, .cons a t, h => by
    obtain ⟨d, h1, h2⟩ := dpms_at (i := i) t (by simpa using h)
    exact ⟨d, by simpa using h1, h2⟩
theorem dpm_int {M : List Addr} {H : Hp} {v : V} {i : Int} (h : DpM M H v (.int i)) : v = .int i := by cases h; rfl
theorem dpm_str {M : List Addr} {H : Hp} {v : V} {i : Str} (h : DpM M H v (.str i)) : v = .str i := by cases h; rfl
theorem dpm_tup {M : List Addr} {H : Hp} {v : V} {ds : List PyData} (h : DpM M H v (.tuple ds)) : ∃ a xs, v = .ref a ∧ H a = some (.tup xs) ∧ DpMs M H xs ds := by
  cases h with
  | tup h t => exact ⟨_, _, rfl, h, t⟩
theorem dpm_lst {M : List Addr} {H : Hp} {v : V} {ds : List PyData} (h : DpM M H v (.list ds)) : ∃ a xs, v = .ref a ∧ a ∉ M ∧ H a = some (.lst xs) ∧ DpMs M H xs ds := by
  cases h with
  | lst n h t => exact ⟨_, _, rfl, n, h, t⟩
theorem dpms_cons {M : List Addr} {H : Hp} {vs : List V} {d : PyData} {ds : List PyData} (h : DpMs M H vs (d :: ds)) : ∃ v ws, vs = v :: ws ∧ DpM M H v d ∧ DpMs M H ws ds := by
  cases h with
  | cons a t => exact ⟨_, _, rfl, a, t⟩
theorem dpms_nil {M : List Addr} {H : Hp} {vs : List V} (h : DpMs M H vs []) : vs = [] := by cases h; rfl
theorem dpms_intsV {M : List Addr} {H : Hp} : ∀ {vs : List V} {ns : List Int}, DpMs M H vs (fInts ns) → vs = ns.map V.int
  | _, [], .nil => rfl
  | _, n :: r, .cons h t => by
    cases h
    rw [dpms_intsV t, List.map_cons]
abbrev s_CodeError___init__ : Stmt := inClass (topS 2) 0
theorem sc_CodeError___init__ : FnScope ["self", "at"] ["self", "at"] (defScope s_CodeError___init__) := ⟨rfl, rfl, rfl, by decide +kernel, rfl, by decide +kernel, by decide +kernel⟩
abbrev p_CodeError___init__ : List Str := ["self", "at"]
abbrev s_Memory___init__ : Stmt := inClass (topS 6) 0
theorem sc_Memory___init__ : FnScope ["self"] ["self"] (defScope s_Memory___init__) := ⟨rfl, rfl, rfl, by decide +kernel, rfl, by decide +kernel, by decide +kernel⟩
abbrev p_Memory___init__ : List Str := ["self"]
abbrev s_Memory_load : Stmt := inClass (topS 6) 1
theorem sc_Memory_load : FnScope ["self", "first", "words", "total"] ["self", "first", "words", "total"] (defScope s_Memory_load) := ⟨rfl, rfl, rfl, by decide +kernel, rfl, by decide +kernel, by decide +kernel⟩
abbrev p_Memory_load : List Str := ["self", "first", "words", "total"]
abbrev s_Memory_check : Stmt := inClass (topS 6) 2
theorem sc_Memory_check : FnScope ["self", "first", "words", "total", "known", "end", "index", "word"] ["self", "first", "words", "total"] (defScope s_Memory_check) := ⟨rfl, rfl, rfl, by decide +kernel, rfl, by decide +kernel, by decide +kernel⟩
abbrev p_Memory_check : List Str := ["self", "first", "words", "total"]
abbrev s_packets : Stmt := topS 5
theorem sc_packets : FnScope ["target", "image", "found", "first"] ["target", "image"] (defScope s_packets) := ⟨rfl, rfl, rfl, by decide +kernel, rfl, by decide +kernel, by decide +kernel⟩
abbrev p_packets : List Str := ["target", "image"]
abbrev s__law_parts : Stmt := topS 11
theorem sc__law_parts : FnScope ["_law_image", "_law_found", "_law_at"] ["_law_image"] (defScope s__law_parts) := ⟨rfl, rfl, rfl, by decide +kernel, rfl, by decide +kernel, by decide +kernel⟩
abbrev p__law_parts : List Str := ["_law_image"]
abbrev s__law_load : Stmt := topS 12
theorem sc__law_load : FnScope ["_law_memory", "_law_first", "_law_words", "_law_total", "e"] ["_law_memory", "_law_first", "_law_words", "_law_total"] (defScope s__law_load) := ⟨rfl, rfl, rfl, by decide +kernel, rfl, by decide +kernel, by decide +kernel⟩
abbrev p__law_load : List Str := ["_law_memory", "_law_first", "_law_words", "_law_total"]
abbrev s__law_due : Stmt := topS 13
theorem sc__law_due : FnScope ["_law_held", "_law_size", "_law_first", "_law_words", "_law_total", "_law_k"] ["_law_held", "_law_size", "_law_first", "_law_words", "_law_total"] (defScope s__law_due) := ⟨rfl, rfl, rfl, by decide +kernel, rfl, by decide +kernel, by decide +kernel⟩
abbrev p__law_due : List Str := ["_law_held", "_law_size", "_law_first", "_law_words", "_law_total"]
abbrev s__law_wrong : Stmt := topS 14
theorem sc__law_wrong : FnScope ["_law_state_here", "_law_image", "_law_held", "_law_size", "_law_part", "_law_total", "_law_first", "_law_due_here"] ["_law_state_here", "_law_image", "_law_held", "_law_size"] (defScope s__law_wrong) := ⟨rfl, rfl, rfl, by decide +kernel, rfl, by decide +kernel, by decide +kernel⟩
abbrev p__law_wrong : List Str := ["_law_state_here", "_law_image", "_law_held", "_law_size"]
abbrev s_law : Stmt := topS 15
theorem sc_law : FnScope ["_law_script", "_law_state_here", "_law_image", "_law_target", "_law_memory", "_law_held", "_law_left", "_law_turn", "_law_size", "_law_k", "_law_part", "_law_first", "_law_words", "_law_total", "_law_due_here"] ["_law_script"] (defScope s_law) := ⟨rfl, rfl, rfl, by decide +kernel, rfl, by decide +kernel, by decide +kernel⟩
abbrev p_law : List Str := ["_law_script"]
theorem cut_nat (xs : List V) (a c : Nat) : cutV xs (some (a : Int)) (some (c : Int)) = (xs.drop a).take (c - a) := by
  unfold cutV
  rw [HT.sIx_nat, HT.sIx_nat]
  by_cases h : a ≤ xs.length
  · rw [Nat.min_eq_left h]
    by_cases h2 : c ≤ xs.length
    · rw [Nat.min_eq_left h2]
    · rw [Nat.min_eq_right (by omega), List.take_of_length_le (by rw [List.length_drop]; omega), List.take_of_length_le (by rw [List.length_drop]; omega)]
  · rw [Nat.min_eq_right (show xs.length ≤ a by omega), List.drop_eq_nil_of_le (as := xs) (i := a) (by omega), List.drop_eq_nil_of_le (as := xs) (i := xs.length) (Nat.le_refl _)]
    simp
theorem cut_len (xs : List V) (f k : Nat) : cutV xs (some (f : Int)) (some ((f : Int) + (k : Int))) = (xs.drop f).take k := by
  have : (f : Int) + (k : Int) = ((f + k : Nat) : Int) := by omega
  rw [this, cut_nat, show f + k - f = k by omega]
theorem cut_toN (xs : List V) (c : Nat) : cutV xs none (some (c : Int)) = xs.take c := by
  unfold cutV
  rw [HT.sIx_none, HT.sIx_nat, List.drop_zero, Nat.sub_zero]
  by_cases h2 : c ≤ xs.length
  · rw [Nat.min_eq_left h2]
  · rw [Nat.min_eq_right (by omega), List.take_of_length_le (Nat.le_refl _), List.take_of_length_le (by omega)]
theorem cut_fromN (xs : List V) (c : Nat) : cutV xs (some (c : Int)) none = xs.drop c := by
  unfold cutV
  rw [HT.sIx_none, HT.sIx_nat]
  by_cases h2 : c ≤ xs.length
  · rw [Nat.min_eq_left h2, List.take_of_length_le (by rw [List.length_drop]; omega)]
  · rw [Nat.min_eq_right (show xs.length ≤ c by omega), List.drop_eq_nil_of_le (as := xs) (i := c) (by omega), List.drop_eq_nil_of_le (as := xs) (i := xs.length) (Nat.le_refl _)]
    simp
theorem q_cutN {K : PySem.W.Frag} {H : Hp} {Q : VK} {p : Addr} {xs ys : List V} {a c : Option Int} (h : H p = some (.lst xs)) (e : cutV xs a c = ys) (q : ∀ p Hn, H p = none → Ex H Hn → Hn p = some (.lst ys) → Q (.ref p) Hn) : rSlA K (.ref p) a c H Q :=
  .inl ⟨p, xs, rfl, sql h, fun l hl => q l _ hl (Ex.mk hl rfl) (by rw [upd_same, e])⟩
theorem w_enum {K : PySem.W.Frag} {g : TG} {ts : L2.Ends → L2.St → Hp → Prop} {nx : L2.St → Hp → Prop} {rt : VK} {σ : L2.St} {H : Hp} {a : Addr} {xs : List V} (Pv : Nat → L2.St → Hp → Prop) (h0 : Pv 0 σ H) (hl : ∀ i σ H, i ≤ xs.length → Pv i σ H → SqL K H a xs)
    (hs : ∀ i x T σ H, xs[i]? = some x → Pv i σ H → H T = none → g (.ref T) σ (upd H T (.tup [.int (i : Nat), x])) fun σ2 H2 => ts ⟨Pv (i + 1), rt, nx, Pv (i + 1)⟩ σ2 H2) (hd : ∀ σ H, Pv xs.length σ H → nx σ H) :
    ∃ W : Nat → Nat → L2.St → Hp → Prop, (∃ m, W 0 m σ H) ∧ ∀ i m σ H, W i m σ H →
      ((Ite K a).stop i H ∧ nx σ H) ∨ ((Ite K a).go i H ∧ ∃ N : L2.St → Hp → Prop, (∀ σ' H', N σ' H' → ∃ m', m' < m ∧ W (i + 1) m' σ' H') ∧ ∀ x H', (Ite K a).yld i H x H' → g x σ H' fun σ2 H2 => ts ⟨N, rt, nx, N⟩ σ2 H2) :=
  for_it (D := ⟨nx, rt, nx, nx⟩) walk_enum Pv h0 hl (fun i x σ H H' _ p y => by
    obtain ⟨T, u, v, h1, h2, h3, h4, h5⟩ := y
    subst h1
    subst h3
    cases h4
    exact hs i v T σ H h5 p h2) hd
theorem r_iEnum {K : PySem.W.Frag} {ta : TA} {σ : L2.St} {H : Hp} {R : It → Hp → Prop} (q : ta σ H fun vs H1 => ∃ a xs, vs = [.ref a] ∧ SqL K H1 a xs ∧ R (Ite K a) H1) : iEnum K ta σ H R := q
theorem q_iEnum {K : PySem.W.Frag} {H : Hp} {a : Addr} {xs : List V} {B : Addr → Prop} (h : SqL K H a xs) (q : B a) : ∃ b ys, [V.ref a] = [.ref b] ∧ SqL K H b ys ∧ B b := ⟨a, xs, rfl, h, q⟩
def rRepN1 : R2 := rRep
theorem op_repN1 {X : Cx} : OpR X (binaryOp .Mult) rRepN1 := op_rep
theorem q_repN1 {H : Hp} {Q : VK} {l : Addr} {v : V} {n : Nat} (h : H l = some (.lst [v])) (hn : n ≤ 1000) (q : ∀ p Hn, H p = none → Ex H Hn → Hn p = some (.lst (List.replicate n v)) → Q (.ref p) Hn) : rRepN1 (.ref l) (.int n) H Q := by
  refine ⟨l, n, [v], rfl, rfl, h, by omega, by omega, ?_, fun p hp => ?_⟩
  · rw [Int.toNat_natCast]
    refine sl1000 ?_
    show 1 * n ≤ 100000
    omega
  · refine q p _ hp (Ex.mk hp rfl) ?_
    rw [upd_same, Int.toNat_natCast, List.flatten_replicate_singleton]
/-! ### the memory as data -/
abbrev Wd := Option Int
def oV : Wd → V
  | none => .non
  | some i => .int i
def tV : Option Nat → V
  | none => .non
  | some n => .int (n : Nat)
def cnt (h : List Wd) : Nat := (h.filter fun o => o.isNone).length
/-- the index that is refused -/
def scan (h : List Wd) (f : Nat) : Nat → Option Nat
  | 0 => none
  | k + 1 => match h.getD f none with
    | some _ => some f
    | none => scan h (f + 1) k
def bad (size : Option Nat) (held : List Wd) (f k total : Nat) : Option Nat :=
  if (size ≠ none ∧ size ≠ some total) ∨ total < f + k then some f else
  match size with
  | none => none
  | some _ => scan held f k
theorem bad_err {size : Option Nat} {held : List Wd} {f k total : Nat} (h : (size ≠ none ∧ size ≠ some total) ∨ total < f + k) : bad size held f k total = some f := by
  unfold bad
  rw [if_pos h]
structure MemK (K : PySem.W.Frag) (C : Addr) : Prop where
  cl : Cls K C
  nW : NoAttr K C "words"
  nK : NoAttr K C "kept"
  nT : NoAttr K C "total"
  nM : NoAttr K C "missing"
def mfl (wa ka : Addr) (tv mv : V) : List (Str × V) := [("words", .ref wa), ("kept", .ref ka), ("total", tv), ("missing", mv)]
structure MemAt (C : Addr) (H : Hp) (m dx wa ka : Addr) (size : Option Nat) (held : List Wd) : Prop where
  ob : H m = some (.ins C dx (mfl wa ka (tV size) (.int (cnt held))))
  ws : H wa = some (.lst (held.map oV))
  ks : H ka = some (.lst (held.map oV))
  nn : size = none → held = []
  sz : ∀ n, size = some n → held.length = n
theorem MemAt.kp {C : Addr} {M : List Addr} {H H' : Hp} {m dx wa ka : Addr} {size : Option Nat} {held : List Wd} (k : Kp M H H') (a : m ∉ M) (b : wa ∉ M) (c : ka ∉ M) (q : MemAt C H m dx wa ka size held) : MemAt C H' m dx wa ka size held :=
  ⟨k.out _ _ a q.ob, k.out _ _ b q.ws, k.out _ _ c q.ks, q.nn, q.sz⟩
variable {C CL CP : Addr}
def sp_minit (C : Addr) : Sp := fun vs H Q _ => ∃ (m dx : Addr), vs = [.ref m] ∧ H m = some (.ins C dx []) ∧ ∀ H' wa ka, H wa = none → H ka = none → Kp [m] H H' → MemAt C H' m dx wa ka none [] → Q .non H'
theorem ok_minit (T : Glo mg) (W : MemK K C) (D : DnI K mg "Memory" "Memory.__init__" C s_Memory___init__ p_Memory___init__) : MakC P w K mg base "Memory" C 1 p_Memory___init__ (sp_minit C) := by
  obtain ⟨hc, n1, n2, n3, n4⟩ := W
  refine D.ok sc_Memory___init__ (fun vs H Q E h => ?_) (fun f cdv A outer s H vs Q E hr h => ?_)
  · obtain ⟨_, _, rfl, _⟩ := h
    rfl
  obtain ⟨m, dx, rfl, ho, q⟩ := h
  refine ⟨_, (pss_cons (ps_fld (pv 0) (pe_lst pa_nil) rfl) (pss_cons (ps_fld (pv 0) (pe_lst pa_nil) rfl) (pss_cons (ps_fld (pv 0) pe_non rfl) (pss_one (ps_fld (pv 0) pe_int rfl))))), ?_⟩
  try dsimp only [cxOf, Cx.nox]
  repeat' walk_at "st"
  refine q _ _ _ (by walk_at "frees") (by walk_at "frees") (by walk_at "kpx") ⟨hu, by walk_at "lift", by walk_at "lift", fun _ => rfl, fun n z => by cases z⟩
theorem scan_none {h : List Wd} : ∀ {k f : Nat}, scan h f k = none → ∀ i, i < k → h.getD (f + i) none = none
  | 0, _, _, i, hi => absurd hi (Nat.not_lt_zero i)
  | k + 1, f, e, i, hi => by
    unfold scan at e
    cases hf : h.getD f none with
    | some x => rw [hf] at e; cases e
    | none =>
      rw [hf] at e
      cases i with
      | zero => exact hf
      | succ i =>
        have := scan_none (k := k) (f := f + 1) e i (by omega)
        rwa [show f + 1 + i = f + (i + 1) by omega] at this
theorem scan_step {h : List Wd} : ∀ {i k f : Nat}, i ≤ k → (∀ j, j < i → h.getD (f + j) none = none) → scan h f k = scan h (f + i) (k - i)
  | 0, k, f, _, _ => rfl
  | i + 1, 0, f, hk, _ => by omega
  | i + 1, k + 1, f, hk, hn => by
    have h0 := hn 0 (by omega)
    rw [Nat.add_zero] at h0
    show (match h.getD f none with | some _ => some f | none => scan h (f + 1) k) = _
    rw [h0]
    show scan h (f + 1) k = _
    rw [scan_step (i := i) (by omega) (fun j hj => by have := hn (j + 1) (by omega); rwa [show f + (j + 1) = f + 1 + j by omega] at this)]
    rw [show f + 1 + i = f + (i + 1) by omega, show k + 1 - (i + 1) = k - i by omega]
def sp_mcheck (C CL : Addr) : Sp := fun vs H Q E => ∃ (m dx wa ka b : Addr) (size : Option Nat) (held : List Wd) (f total : Nat) (ws : List Int), vs = [.ref m, .int f, .ref b, .int total] ∧ MemAt C H m dx wa ka size held ∧ H b = some (.lst (ws.map V.int)) ∧ held.length ≤ 1000 ∧ ws.length ≤ 1000 ∧
  (bad size held f ws.length total = none → ∀ H', Ex H H' → Q .non H') ∧ ∀ e, bad size held f ws.length total = some e → ∀ d H', Ex H H' → H' d = some (.xd [(("at" : Str), .int (e : Nat))]) → E (.ref CL) (some d) H'
theorem c_mcheck {m dx wa ka b : Addr} {size : Option Nat} {held : List Wd} {f total : Nat} {ws : List Int} {H : Hp} {Q : VK} {E : XK} (h1 : MemAt C H m dx wa ka size held) (h2 : H b = some (.lst (ws.map V.int))) (h3 : held.length ≤ 1000) (h4 : ws.length ≤ 1000) (q1 : bad size held f ws.length total = none → ∀ H', Ex H H' → Q .non H')
    (q2 : ∀ e, bad size held f ws.length total = some e → ∀ d H', Ex H H' → H' d = some (.xd [(("at" : Str), .int (e : Nat))]) → E (.ref CL) (some d) H') : sp_mcheck C CL [.ref m, .int f, .ref b, .int total] H Q E := ⟨m, dx, wa, ka, b, size, held, f, total, ws, rfl, h1, h2, h3, h4, q1, q2⟩
theorem ok_mcheck (T : Glo mg) (W : MemK K C) (D : DnM K C "check" "Memory.check" s_Memory_check p_Memory_check) (T_CodeError : ErrC K mg "CodeError" CL "at") (M_CodeError : MakE P w K mg base CL 1 p_CodeError___init__ (sp_einit CL "at")) : MetX P w K mg base C "check" 3 p_Memory_check (sp_mcheck C CL) := by
  obtain ⟨hc, n1, n2, n3, n4⟩ := W
  refine D.okX sc_Memory_check (fun vs H Q E h => ?_) (fun fa cdv A outer s H vs Q E hr h => ?_)
  · obtain ⟨_, _, _, _, _, _, _, _, _, _, rfl, _⟩ := h
    rfl
  obtain ⟨m, dx, wa, ka, b, size, held, f, total, ws, rfl, ⟨ho, hws, hks, hnn, hsz⟩, hb, z1, z2, q, qe⟩ := h
  simp only [mfl] at ho
  have tk := takes_def (P := P) (w := w) (K := K) (mg := mg) (base := base) (N := (["self", "first", "words", "total", "known", "end", "index", "word"] : List Str)) (x := "Memory.check") (sc := defScope s_Memory_check) (f := fa) (cdv := cdv) (A := A) (outer := outer) (s := s) (H := H) (E := E)
  have po := passes_def (P := P) (w := w) (K := K) (mg := mg) (base := base) (N := (["self", "first", "words", "total", "known", "end", "index", "word"] : List Str)) (x := "Memory.check") (sc := defScope s_Memory_check) (f := fa) (cdv := cdv) (A := A) (outer := outer) (s := s) (H := H) (E := E)
  refine ⟨_, (pss_cons (ps_set (i := 4) sc_Memory_check.nd rfl (by first | exact Or.inl rfl | exact Or.inr rfl) (pe_ifExp (pt_cmpR op_isN1 (pe_fld (pv 0) rfl) pe_non (nomark _)) (pv 3) (pe_fld (pv 0) rfl))) (pss_cons (ps_set (i := 5) sc_Memory_check.nd rfl (by first | exact Or.inl rfl | exact Or.inr rfl) (pe_op op_addA (pv 1) (pe_callB call_lenA rfl T.n_len (by decide +kernel) (pa_cons (pv 2) pa_nil)))) (pss_cons (ps_if (PW.pt (pw_or (pt_cmpR (op_neA (hu64 hr)) (pv 3) (pv 4) (nomark _)) (pw_or1 (pt_cmpR op_gt (pv 5) (pv 4) (nomark _))))) (pss_one (ps_err rfl tk T_CodeError M_CodeError (hr.mono (by walk_at "lev")) rfl (pa_cons (pv 1) pa_nil))) pss_nil) (pss_one (ps_for po rfl (pi_enum rfl T.n_enumerate (pa_cons (pe_slice sl_any (pe_fld (pv 0) rfl) (po_some (pv 1)) (po_some (pv 5))) pa_nil)) (pg_tup rfl (pgs_cons (pg_name (i := 6) sc_Memory_check.nd rfl (by first | exact Or.inl rfl | exact Or.inr rfl)) (pgs_cons (pg_name (i := 7) sc_Memory_check.nd rfl (by first | exact Or.inl rfl | exact Or.inr rfl)) pgs_nil))) (pss_one (ps_if (pt_cmpR op_notN1 (pv 7) pe_non (nomark _)) (pss_one (ps_err rfl tk T_CodeError M_CodeError (hr.mono (by walk_at "lev")) rfl (pa_cons (pe_op op_addA (pv 1) (pv 6)) pa_nil))) pss_nil))))))), ?_⟩
  try dsimp only [cxOf]
  cases size with
  | none =>
    have := hnn rfl
    subst this
    simp only [tV] at ho
    repeat' walk_at "st"
    · rename_i cc
      rw [List.length_map] at cc
      exact fun d H2 hd k2 h2 => qe f (bad_err (.inr (by omega))) d H2 k2 h2
    · rename_i cc
      rw [List.length_map] at cc
      refine r_iEnum ?_
      repeat' walk_at "st"
      refine q_cutN hks rfl (fun p H1 hp e1 h1 => ?_)
      repeat' walk_at "st"
      rw [List.length_map, cut_len] at h1
      refine q_iEnum (sql h1) ?_
      have b0 : bad none [] f ws.length total = none := by
        unfold bad
        rw [if_neg (fun z => by rcases z with z | z; exact z.1 rfl; omega)]
      refine w_enum (xs := List.take ws.length (List.drop f (List.map oV []))) (fun i σ H' => i = 0 ∧ H' = H1) ?_ ?_ ?_ ?_
      · exact ⟨rfl, rfl⟩
      · rintro i σ H' _ ⟨_, rfl⟩
        exact sql h1
      · rintro i x T1 σ H' hi ⟨rfl, rfl⟩ hT
        simp at hi
      · rintro σ H' ⟨_, rfl⟩
        exact q b0 _ e1
  | some n =>
    have hn := hsz n rfl
    simp only [tV] at ho
    repeat' walk_at "st"
    · rename_i cc
      have : ¬ total = n := fun z => cc (by rw [z])
      exact fun d H2 hd k2 h2 => qe f (bad_err (.inl ⟨(by intro z; cases z), fun z => this (Option.some.inj z).symm⟩)) d H2 k2 h2
    · rename_i _ cc
      rw [List.length_map] at cc
      rename_i c0
      have : total = n := by omega
      exact fun d H2 hd k2 h2 => qe f (bad_err (.inr (by omega))) d H2 k2 h2
    · rename_i c0 cc
      rw [List.length_map] at cc
      have : total = n := by omega
      subst this
      refine r_iEnum ?_
      repeat' walk_at "st"
      refine q_cutN hks rfl (fun p H1 hp e1 h1 => ?_)
      repeat' walk_at "st"
      rw [List.length_map, cut_len] at h1
      refine q_iEnum (sql h1) ?_
      have b0 : bad (some total) held f ws.length total = scan held f ws.length := by
        unfold bad
        rw [if_neg (fun z => by rcases z with z | z; exact z.2 rfl; omega)]
      rw [b0] at q qe
      have lx : (((held.map oV).drop f).take ws.length).length = ws.length := by
        rw [List.length_take, List.length_drop, List.length_map]
        omega
      refine w_enum (xs := ((held.map oV).drop f).take ws.length) (fun i σ H' => ∃ y6 y7 : Option V, σ = [some (.ref m), some (.int f), some (.ref b), some (.int total), some (.int total), some (.int ((f : Int) + ((ws.map V.int).length : Nat))), y6, y7] ∧ Ex H H' ∧ H' p = some (.lst (((held.map oV).drop f).take ws.length)) ∧ ∀ j, j < i → held.getD (f + j) none = none) ?_ ?_ ?_ ?_
      · exact ⟨none, none, rfl, e1, h1, fun j hj => absurd hj (Nat.not_lt_zero j)⟩
      · rintro i σ H' _ ⟨_, _, _, _, h', _⟩
        exact sql h'
      · rintro i x T1 σ H' hi ⟨y6, y7, rfl, e2, h2, hj⟩ hT
        generalize hq9 : upd H' T1 _ = H9
        have x9 : Ex H' H9 := Ex.mk hT hq9
        have h9 := at_new hq9
        have li : i < ws.length := by
          have := (List.getElem?_eq_some_iff.mp hi).1
          omega
        rw [List.getElem?_take, if_pos li, List.getElem?_drop, List.getElem?_map] at hi
        obtain ⟨o, ho1, rfl⟩ := Option.map_eq_some_iff.mp hi
        have gd : held.getD (f + i) none = o := by rw [List.getD_eq_getElem?_getD, ho1]; rfl
        have st := scan_step (h := held) (f := f) (Nat.le_of_lt li) hj
        obtain ⟨r, hr⟩ : ∃ r, ws.length - i = r + 1 := ⟨ws.length - i - 1, by omega⟩
        rw [hr] at st
        cases o with
        | none =>
          simp only [oV] at h9
          repeat' walk_at "st"
          refine ⟨_, _, rfl, e2.trans x9, x9 _ _ h2, fun j hj2 => ?_⟩
          by_cases e : j < i
          · exact hj j e
          · have : j = i := by omega
            rw [this]
            exact gd
        | some z =>
          simp only [oV] at h9
          repeat' walk_at "st"
          refine fun d H2 hd k2 h3 => qe (f + i) ?_ d H2 (e2.trans (x9.trans k2)) h3
          rw [st]
          show (match held.getD (f + i) none with | some _ => some (f + i) | none => scan held (f + i + 1) r) = _
          rw [gd]
      · rintro σ H' ⟨y6, y7, rfl, e2, h2, hj⟩
        rw [lx] at hj
        refine q ?_ _ e2
        have st := scan_step (h := held) (f := f) (Nat.le_refl _) hj
        rw [st, Nat.sub_self]
        rfl
variable {C CL CP : Addr}
/-- what is held behind a part -/
def put (held : List Wd) (f : Nat) (ws : List Int) : List Wd := held.take f ++ ws.map some ++ held.drop (f + ws.length)
def full (size : Option Nat) (held : List Wd) (total : Nat) : List Wd := match size with
  | none => List.replicate total none
  | some _ => held
theorem ov_some (ws : List Int) : (ws.map some).map oV = ws.map V.int := by
  rw [List.map_map]
  rfl
theorem cnt_app (a b : List Wd) : cnt (a ++ b) = cnt a + cnt b := by
  unfold cnt
  rw [List.filter_append, List.length_append]
theorem cnt_some (ws : List Int) : cnt (ws.map some) = 0 := by
  unfold cnt
  rw [List.length_eq_zero_iff, List.filter_eq_nil_iff]
  intro x hx
  obtain ⟨i, _, rfl⟩ := List.mem_map.mp hx
  simp
theorem cnt_nones {h : List Wd} (hh : ∀ x ∈ h, x = none) : cnt h = h.length := by
  unfold cnt
  rw [List.filter_eq_self.mpr]
  intro x hx
  rw [hh x hx]
  rfl
theorem put_cnt {held : List Wd} {f : Nat} {ws : List Int} (hz : f + ws.length ≤ held.length) (h : ∀ i, i < ws.length → held.getD (f + i) none = none) : (cnt (put held f ws) : Int) = cnt held - ws.length := by
  have e : held = held.take f ++ ((held.drop f).take ws.length ++ held.drop (f + ws.length)) := by
    rw [← List.drop_drop, List.take_append_drop, List.take_append_drop]
  have l : ((held.drop f).take ws.length).length = ws.length := by rw [List.length_take, List.length_drop]; omega
  have n : cnt ((held.drop f).take ws.length) = ws.length := by
    rw [cnt_nones, l]
    intro x hx
    obtain ⟨i, hi⟩ := List.getElem?_of_mem hx
    have li : i < ws.length := by have := (List.getElem?_eq_some_iff.mp hi).1; omega
    rw [List.getElem?_take, if_pos li, List.getElem?_drop] at hi
    have := h i li
    rw [List.getD_eq_getElem?_getD, hi] at this
    exact this
  have c1 : cnt held = cnt (held.take f) + (cnt ((held.drop f).take ws.length) + cnt (held.drop (f + ws.length))) := by
    rw [← cnt_app, ← cnt_app, ← e]
  unfold put
  rw [cnt_app, cnt_app, cnt_some, c1, n]
  omega
theorem bad_ok {size : Option Nat} {held : List Wd} {f k total : Nat} (hn : size = none → held = []) (hs : ∀ n, size = some n → held.length = n) (h : bad size held f k total = none) : (full size held total).length = total ∧ f + k ≤ total ∧ (∀ i, i < k → (full size held total).getD (f + i) none = none) ∧ (size = none ∨ size = some total) := by
  unfold bad at h
  by_cases c : (size ≠ none ∧ size ≠ some total) ∨ total < f + k
  · rw [if_pos c] at h; cases h
  · rw [if_neg c] at h
    have c2 : f + k ≤ total := by
      have : ¬ total < f + k := fun z => c (.inr z)
      omega
    cases size with
    | none =>
      refine ⟨List.length_replicate, c2, fun i hi => ?_, .inl rfl⟩
      show (List.replicate total none).getD (f + i) none = none
      rw [List.getD_eq_getElem?_getD, List.getElem?_replicate, if_pos (by omega)]
      rfl
    | some n =>
      have : n = total := by
        have h1 : ¬ (some n ≠ none ∧ some n ≠ some total) := fun z => c (.inl z)
        by_cases e : n = total
        · exact e
        · exact absurd ⟨(by intro z; cases z), fun z => e (Option.some.inj z)⟩ h1
      subst this
      exact ⟨hs _ rfl, c2, scan_none h, .inr rfl⟩
theorem put_map {held : List Wd} {f : Nat} {ws : List Int} : (held.map oV).take (f : Int).toNat ++ ws.map V.int ++ (held.map oV).drop ((f : Int) + ((ws.map V.int).length : Nat)).toNat = (put held f ws).map oV := by
  have e : ((f : Int) + ((ws.map V.int).length : Nat)).toNat = f + ws.length := by rw [List.length_map]; omega
  unfold put
  rw [e, Int.toNat_natCast, List.map_append, List.map_append, ov_some, List.map_take, List.map_drop]
theorem put_len {held : List Wd} {f n : Nat} {ws : List Int} (h : held.length = n) (hz : f + ws.length ≤ n) : (put held f ws).length = n := by
  unfold put
  rw [List.length_append, List.length_append, List.length_take, List.length_map, List.length_drop]
  omega
def sp_load (C CL : Addr) : Sp := fun vs H Q E => ∃ (m dx wa ka b : Addr) (size : Option Nat) (held : List Wd) (f total : Nat) (ws : List Int), vs = [.ref m, .int f, .ref b, .int total] ∧ MemAt C H m dx wa ka size held ∧ H b = some (.lst (ws.map V.int)) ∧ held.length ≤ 1000 ∧ ws.length ≤ 1000 ∧ total ≤ 1000 ∧ b ≠ ka ∧
  (bad size held f ws.length total = none → ∀ H' wa' ka', Kp [m, ka] H H' → H wa' = none → (ka' = ka ∨ H ka' = none) → MemAt C H' m dx wa' ka' (some total) (put (full size held total) f ws) → Q (.bl (decide ((cnt (put (full size held total) f ws) : Int) = 0))) H') ∧
  ∀ e, bad size held f ws.length total = some e → ∀ d H', Ex H H' → H' d = some (.xd [(("at" : Str), .int (e : Nat))]) → E (.ref CL) (some d) H'
theorem c_load {m dx wa ka b : Addr} {size : Option Nat} {held : List Wd} {f total : Nat} {ws : List Int} {H : Hp} {Q : VK} {E : XK} (h1 : MemAt C H m dx wa ka size held) (h2 : H b = some (.lst (ws.map V.int))) (h3 : held.length ≤ 1000) (h4 : ws.length ≤ 1000) (h5 : total ≤ 1000) (h6 : b ≠ ka)
    (q1 : bad size held f ws.length total = none → ∀ H' wa' ka', Kp [m, ka] H H' → H wa' = none → (ka' = ka ∨ H ka' = none) → MemAt C H' m dx wa' ka' (some total) (put (full size held total) f ws) → Q (.bl (decide ((cnt (put (full size held total) f ws) : Int) = 0))) H')
    (q2 : ∀ e, bad size held f ws.length total = some e → ∀ d H', Ex H H' → H' d = some (.xd [(("at" : Str), .int (e : Nat))]) → E (.ref CL) (some d) H') : sp_load C CL [.ref m, .int f, .ref b, .int total] H Q E := ⟨m, dx, wa, ka, b, size, held, f, total, ws, rfl, h1, h2, h3, h4, h5, h6, q1, q2⟩
theorem q_eqIb {i j : Int} {H : Hp} {Q : VK} (q : Q (.bl (decide (i = j))) H) : rEqA K (.int i) (.int j) H Q := by
  by_cases e : i = j
  · exact q_eqY rfl (by rw [e]) (by rwa [decide_eq_true e] at q)
  · exact q_eqN rfl (fun z => e (V.int.inj z)) (by rwa [decide_eq_false e] at q)
theorem ok_load (T : Glo mg) (W : MemK K C) (D : DnM K C "load" "Memory.load" s_Memory_load p_Memory_load) (G_Memory_check : MetX P w K mg base C "check" 3 p_Memory_check (sp_mcheck C CL)) : MetX P w K mg base C "load" 4 p_Memory_load (sp_load C CL) := by
  obtain ⟨hc, n1, n2, n3, n4⟩ := W
  refine D.okX sc_Memory_load (fun vs H Q E h => ?_) (fun fa cdv A outer s H vs Q E hr h => ?_)
  · obtain ⟨_, _, _, _, _, _, _, _, _, _, rfl, _⟩ := h
    rfl
  obtain ⟨m, dx, wa, ka, b, size, held, f, total, ws, rfl, ma, hb, z1, z2, z3, nbk, q, qe⟩ := h
  have ho := ma.ob
  have hks := ma.ks
  have nkm : ka ≠ m := ne_knd hks ho (by intro z; cases z)
  have nbm : b ≠ m := ne_knd hb ho (by intro z; cases z)
  simp only [mfl] at ho
  have tk := takes_def (P := P) (w := w) (K := K) (mg := mg) (base := base) (N := (["self", "first", "words", "total"] : List Str)) (x := "Memory.load") (sc := defScope s_Memory_load) (f := fa) (cdv := cdv) (A := A) (outer := outer) (s := s) (H := H) (E := E)
  refine ⟨_, (pss_cons (ps_expr (pe_mtX G_Memory_check (hr.mono (by walk_at "lev")) tk (pv 0) (pa_cons (pv 1) (pa_cons (pv 2) (pa_cons (pv 3) pa_nil))))) (pss_cons (ps_if (pt_cmpR op_isN1 (pe_fld (pv 0) rfl) pe_non (nomark _)) (pss_cons (ps_fld (pv 0) (pe_op op_repN1 (pe_lst (pa_cons pe_non pa_nil)) (pv 3)) rfl) (pss_cons (ps_fld (pv 0) (pv 3) rfl) (pss_one (ps_fld (pv 0) (pv 3) rfl)))) pss_nil) (pss_cons (ps_asg (pv 2) (pg_slice (pe_fld (pv 0) rfl) (po_some (pv 1)) (po_some (pe_op op_addA (pv 1) (pe_callB call_lenA rfl T.n_len (by decide +kernel) (pa_cons (pv 2) pa_nil)))))) (pss_cons (ps_fldaug (pv 0) (pe_callB call_lenA rfl T.n_len (by decide +kernel) (pa_cons (pv 2) pa_nil)) in_sub) (pss_cons (ps_fld (pv 0) (pe_callTy call_listA rfl T.n_list (by decide +kernel) (pa_cons (pe_fld (pv 0) rfl) pa_nil)) rfl) (pss_one (ps_ret (pe_cmpR (op_eqA (hu64 hr)) (pe_fld (pv 0) rfl) pe_int (nomark _))))))))), ?_⟩
  try dsimp only [cxOf]
  repeat' walk_at "st"
  refine c_mcheck ma hb z1 z2 (fun b0 H1 e1 => ?_) (fun e b0 d H1 e1 hd => qe e b0 d H1 e1 hd)
  have q := q b0
  obtain ⟨fl, fk, fn, fs⟩ := bad_ok ma.nn ma.sz b0
  have pc := put_cnt (held := full size held total) (f := f) (ws := ws) (by omega) fn
  cases size with
  | none =>
    simp only [tV] at ho
    repeat' walk_at "st"
    refine q_repN1 hn z3 (fun p2 H3 hp2 e3 h3 => ?_)
    repeat' walk_at "st"
    have hrep : List.replicate total V.non = (full none held total).map oV := by
      show _ = (List.replicate total (none : Wd)).map oV
      rw [List.map_replicate]
      rfl
    rw [hrep] at h3
    have np2 : b ≠ p2 := ne_of_none (ke _ _ (e1 _ _ hb)) hp2
    have npm : p2 ≠ m := by walk_at "ne1"
    refine q_gslc (xs := (full none held total).map oV) (ys := ws.map V.int) (by walk_at "lift") (by walk_at "lift") (Ne.symm np2) (by omega) (by omega) (by rw [List.length_map, List.length_map]; omega) (by rw [List.length_map, List.length_map]; omega) (fun H4 k4 h4 => ?_)
    rw [put_map] at h4
    have ec : ((total : Int) - ((ws.map V.int).length : Nat)) = (cnt (put (full none held total) f ws) : Nat) := by
      rw [pc, List.length_map]
      have : cnt (full none held total) = total := by
        show cnt (List.replicate total none) = total
        rw [cnt_nones (fun x hx => List.eq_of_mem_replicate hx), List.length_replicate]
      rw [this]
    repeat' walk_at "st"
    · rename_i cc
      rw [ec] at hu cc
      have fin := q _ p p2 (by walk_at "kpx") (by walk_at "frees") (.inr (by walk_at "frees")) ⟨hu, by walk_at "lift", by walk_at "lift", (fun z => by cases z), fun k hk => (by cases hk; exact put_len fl fk)⟩
      rw [decide_eq_true cc] at fin
      exact fin
    · rename_i cc
      rw [ec] at hu cc
      have fin := q _ p p2 (by walk_at "kpx") (by walk_at "frees") (.inr (by walk_at "frees")) ⟨hu, by walk_at "lift", by walk_at "lift", (fun z => by cases z), fun k hk => (by cases hk; exact put_len fl fk)⟩
      rw [decide_eq_false cc] at fin
      exact fin
  | some n =>
    have : n = total := by
      rcases fs with z | z
      · cases z
      · exact Option.some.inj z
    subst this
    simp only [tV] at ho
    repeat' walk_at "st"
    refine q_gslc (xs := held.map oV) (ys := ws.map V.int) (by walk_at "lift") (by walk_at "lift") (Ne.symm nbk) (by omega) (by omega) (by rw [List.length_map, List.length_map]; have : held.length = n := fl; omega) (by rw [List.length_map, List.length_map]; omega) (fun H4 k4 h4 => ?_)
    rw [put_map] at h4
    have ec : ((cnt held : Int) - ((ws.map V.int).length : Nat)) = (cnt (put held f ws) : Nat) := by
      rw [List.length_map]
      exact pc.symm
    repeat' walk_at "st"
    · rename_i cc
      rw [ec] at hu cc
      have fin := q _ p ka (by walk_at "kpx") (by walk_at "frees") (.inl rfl) ⟨hu, by walk_at "lift", by walk_at "lift", (fun z => by cases z), fun k hk => (by cases hk; exact put_len fl fk)⟩
      change Q (.bl (decide ((cnt (put held f ws) : Int) = 0))) _ at fin
      rw [decide_eq_true cc] at fin
      exact fin
    · rename_i cc
      rw [ec] at hu cc
      have fin := q _ p ka (by walk_at "kpx") (by walk_at "frees") (.inl rfl) ⟨hu, by walk_at "lift", by walk_at "lift", (fun z => by cases z), fun k hk => (by cases hk; exact put_len fl fk)⟩
      change Q (.bl (decide ((cnt (put held f ws) : Int) = 0))) _ at fin
      rw [decide_eq_false cc] at fin
      exact fin
variable {C CL CP : Addr}
/-! ### the parts -/
def sl (im : List Int) (i : Nat) : List Int := (im.drop (8 * i)).take 8
def prtL (im : List Int) (i : Nat) : List PyData := [.str "load", .int (8 * i : Nat), .list (fInts (sl im i)), .int (im.length : Nat)]
def prtD (im : List Int) (i : Nat) : PyData := .tuple (prtL im i)
def np (im : List Int) : Nat := (im.length + 7) / 8
def prts (im : List Int) : List PyData := (List.range (np im)).map (prtD im)
def sp_parts : Sp := fun vs H Q _ => ∃ (ia : Addr) (im : List Int) (M : List Addr), vs = [.ref ia] ∧ H ia = some (.lst (im.map V.int)) ∧ im.length ≤ 1000 ∧ Mo M H ∧ ∀ H' p vs, Ex H H' → H p = none → H' p = some (.lst vs) → DpMs (p :: M) H' vs (prts im) → Q (.ref p) H'
theorem c_parts {ia : Addr} {im : List Int} {H : Hp} {Q : VK} {E : XK} (M : List Addr) (h1 : H ia = some (.lst (im.map V.int))) (h2 : im.length ≤ 1000) (h3 : Mo M H) (q : ∀ H' p vs, Ex H H' → H p = none → H' p = some (.lst vs) → DpMs (p :: M) H' vs (prts im) → Q (.ref p) H') : sp_parts [.ref ia] H Q E := ⟨ia, im, M, rfl, h1, h2, h3, q⟩
theorem sl_v {im : List Int} {i : Nat} : ((im.map V.int).drop (8 * i)).take 8 = (sl im i).map V.int := by
  unfold sl
  rw [List.map_take, List.map_drop]
theorem prts_snoc {im : List Int} {i : Nat} : (List.range (i + 1)).map (prtD im) = (List.range i).map (prtD im) ++ [prtD im i] := by
  rw [List.range_succ, List.map_append]
  rfl
theorem ok_parts (T : Glo mg) (D : Dn K mg "_law_parts" s__law_parts p__law_parts) : Cal P w K mg base "_law_parts" 1 p__law_parts sp_parts := by
  refine D.ok sc__law_parts (fun vs H Q E h => ?_) (fun f cdv A outer s H vs Q E hr h => ?_)
  · obtain ⟨_, _, _, rfl, _⟩ := h
    rfl
  obtain ⟨ia, im, M, rfl, hia, hz, mo, q⟩ := h
  refine ⟨_, (pss_cons (ps_set (i := 1) sc__law_parts.nd rfl (by first | exact Or.inl rfl | exact Or.inr rfl) (pe_lst pa_nil)) (pss_cons (ps_set (i := 2) sc__law_parts.nd rfl (by first | exact Or.inl rfl | exact Or.inr rfl) pe_int) (pss_cons (ps_while PassesOwn.never (pt_cmpR op_lt (pv 2) (pe_callB call_lenA rfl T.n_len (by decide +kernel) (pa_cons (pv 0) pa_nil)) (nomark _)) (pss_cons (ps_expr (pe_bm PySem.F.plainAttrs_list PySem.F.slot_list_append PySem.F.type_list_append mt_append (pv 1) (pa_cons (pe_tup (pa_cons pe_str (pa_cons (pv 2) (pa_cons (pe_slice sl_any (pv 0) (po_some (pv 2)) (po_some (pe_op op_addA (pv 2) pe_int))) (pa_cons (pe_callB call_lenA rfl T.n_len (by decide +kernel) (pa_cons (pv 0) pa_nil)) pa_nil))))) pa_nil))) (pss_one (ps_set (i := 2) sc__law_parts.nd rfl (by first | exact Or.inl rfl | exact Or.inr rfl) (pe_op op_addA (pv 2) pe_int))))) (pss_one (ps_ret (pv 1)))))), ?_⟩
  try dsimp only [cxOf, Cx.nox]
  repeat' walk_at "st"
  have nM : p ∉ M := mo.new hp
  obtain ⟨F, rfl⟩ : ∃ x, x = p := ⟨_, rfl⟩
  have hF0 := hp
  refine w_while (fun m σ H' => ∃ (i : Nat) (vs : List V), m = np im - i ∧ i ≤ np im ∧ σ = [some (.ref ia), some (.ref F), some (.int (8 * i : Nat))] ∧ Ex H H' ∧ H' F = some (.lst vs) ∧ DpMs (F :: M) H' vs ((List.range i).map (prtD im))) (np im) ⟨0, [], rfl, Nat.zero_le _, rfl, ke, hn, .nil⟩ ?_ ?_
  · rintro m σ H1 ⟨i, vs, rfl, hi, rfl, e1, hF, dv⟩
    have hia1 := e1 _ _ hia
    have lv := dpms_len dv
    rw [List.length_map, List.length_range] at lv
    have e8 : ((8 * i : Nat) : Int) + 8 = ((8 * i + 8 : Nat) : Int) := by omega
    repeat' walk_at "st"
    · rename_i cc
      rw [List.length_map] at cc
      have li : i < np im := by unfold np; omega
      refine q_cutN hia1 (by rw [e8, cut_nat, show 8 * i + 8 - 8 * i = 8 by omega, sl_v]) (fun p1 H2 hp1 e2 h2 => ?_)
      have np1 : p1 ∉ F :: M := (mo_add (fsome hF) (mo_ex e1 mo)).new hp1
      repeat' walk_at "st"
      refine ⟨np im - (i + 1), by omega, i + 1, vs ++ [.ref _], rfl, li, by rw [show 8 * (i + 1) = 8 * i + 8 by omega, ← e8]; rfl, ?_, hu, ?_⟩
      · walk_at "exx"
      · rw [prts_snoc]
        refine dpms_kp ku sub_hd (dpms_app (dpms_ex (by walk_at "exx") dv) (dpms_one (.tup hn (.cons (.str _) (.cons (.int _) (.cons (.lst np1 (by walk_at "lift") (dpms_ints _)) (.cons ?_ .nil)))))))
        rw [List.length_map]
        exact .int _
    · rename_i cc
      rw [List.length_map] at cc
      have li : i = np im := by unfold np at hi ⊢; omega
      subst li
      exact q _ F vs e1 hF0 hF dv
  · intro σ H Q Q' hQ h
    exact mo_test (mo_op mo_I0 mo_var (mo_cb mo_lenA (mo_cons mo_var mo_nil))) _ _ _ _ hQ h
/-! ### the program's packets -/
def pktD (t : Int) (im : List Int) (i : Nat) : PyData := .tuple [.int t, prtD im i]
def pkts (t : Int) (im : List Int) : List PyData := (List.range (np im)).map (pktD t im)
theorem pkts_snoc {t : Int} {im : List Int} {i : Nat} : (List.range (i + 1)).map (pktD t im) = (List.range i).map (pktD t im) ++ [pktD t im i] := by
  rw [List.range_succ, List.map_append]
  rfl
theorem rg8 : ∀ n : Nat, n ≤ 60 → Builtin.Range.small 0 (n : Int) 8 = true ∧ Builtin.Range.rangeSize 0 (n : Int) 8 = (n + 7) / 8 := by decide +kernel
theorem r_rng3 {ta : TA} {σ : L2.St} {H : Hp} {R : It → Hp → Prop} (q : ta σ H fun vs H1 => ∃ (i j c : Int) (n : Nat), vs = [.int i, .int j, .int c] ∧ RgC i j c n ∧ R (Itc i c n) H1) : iRng3 ta σ H R := q
theorem q_rng8 {n : Nat} {B : Int → Int → Int → Nat → Prop} (h : n ≤ 60) (q : B 0 n 8 ((n + 7) / 8)) : ∃ (i j c : Int) (k : Nat), [V.int 0, V.int (n : Int), V.int 8] = [.int i, .int j, .int c] ∧ RgC i j c k ∧ B i j c k := ⟨0, n, 8, (n + 7) / 8, rfl, ⟨by decide, by decide, (rg8 n h).1, (rg8 n h).2⟩, q⟩
theorem w_rngC {σ : L2.St} {H : Hp} {g : TG} {ts : TS} {nx : L2.St → Hp → Prop} {rt : VK} {lo c : Int} {n : Nat} (Pv : Nat → L2.St → Hp → Prop) (h0 : Pv 0 σ H)
    (hs : ∀ i σ H, i < n → Pv i σ H → g (.int (lo + (i : Nat) * c)) σ H fun σ2 H2 => ts ⟨Pv (i + 1), rt, nx, Pv (i + 1)⟩ σ2 H2) (hd : ∀ σ H, Pv n σ H → nx σ H) :
    ∃ W : Nat → Nat → L2.St → Hp → Prop, (∃ m, W 0 m σ H) ∧ ∀ i m σ H, W i m σ H →
      ((Itc lo c n).stop i H ∧ nx σ H) ∨ ((Itc lo c n).go i H ∧ ∃ N : L2.St → Hp → Prop, (∀ σ' H', N σ' H' → ∃ m', m' < m ∧ W (i + 1) m' σ' H') ∧ ∀ x H', (Itc lo c n).yld i H x H' → g x σ H' fun σ2 H2 => ts ⟨N, rt, nx, N⟩ σ2 H2) :=
  for_rangeC (D := ⟨nx, rt, nx, nx⟩) Pv h0 hs hd
def sp_packets : Sp := fun vs H Q _ => ∃ (ia : Addr) (im : List Int) (t : Int) (M : List Addr), vs = [.int t, .ref ia] ∧ H ia = some (.lst (im.map V.int)) ∧ im.length ≤ 60 ∧ Mo M H ∧ ∀ H' p vs, Ex H H' → H p = none → H' p = some (.lst vs) → DpMs M H' vs (pkts t im) → Q (.ref p) H'
theorem c_packets {ia : Addr} {im : List Int} {t : Int} {H : Hp} {Q : VK} {E : XK} (M : List Addr) (h1 : H ia = some (.lst (im.map V.int))) (h2 : im.length ≤ 60) (h3 : Mo M H) (q : ∀ H' p vs, Ex H H' → H p = none → H' p = some (.lst vs) → DpMs M H' vs (pkts t im) → Q (.ref p) H') : sp_packets [.int t, .ref ia] H Q E := ⟨ia, im, t, M, rfl, h1, h2, h3, q⟩
theorem ok_packets (T : Glo mg) (D : Dn K mg "packets" s_packets p_packets) : Cal P w K mg base "packets" 1 p_packets sp_packets := by
  refine D.ok sc_packets (fun vs H Q E h => ?_) (fun f cdv A outer s H vs Q E hr h => ?_)
  · obtain ⟨_, _, _, _, rfl, _⟩ := h
    rfl
  obtain ⟨ia, im, t, M, rfl, hia, hz, mo, q⟩ := h
  refine ⟨_, (pss_cons (ps_set (i := 2) sc_packets.nd rfl (by first | exact Or.inl rfl | exact Or.inr rfl) (pe_lst pa_nil)) (pss_cons (ps_for PassesOwn.never rfl (pi_range3 rfl T.n_range (pa_cons pe_int (pa_cons (pe_callB call_lenA rfl T.n_len (by decide +kernel) (pa_cons (pv 1) pa_nil)) (pa_cons (pe_globC rfl T.c_LONGEST_PART) pa_nil)))) (pg_name (i := 3) sc_packets.nd rfl (by first | exact Or.inl rfl | exact Or.inr rfl)) (pss_one (ps_expr (pe_bm PySem.F.plainAttrs_list PySem.F.slot_list_append PySem.F.type_list_append mt_append (pv 2) (pa_cons (pe_tup (pa_cons (pv 0) (pa_cons (pe_tup (pa_cons pe_str (pa_cons (pv 3) (pa_cons (pe_slice sl_any (pv 1) (po_some (pv 3)) (po_some (pe_op op_addA (pv 3) (pe_globC rfl T.c_LONGEST_PART)))) (pa_cons (pe_callB call_lenA rfl T.n_len (by decide +kernel) (pa_cons (pv 1) pa_nil)) pa_nil))))) pa_nil))) pa_nil))))) (pss_one (ps_ret (pv 2))))), ?_⟩
  try dsimp only [cxOf, Cx.nox]
  repeat' walk_at "st"
  have nM : p ∉ M := mo.new hp
  obtain ⟨F, rfl⟩ : ∃ x, x = p := ⟨_, rfl⟩
  have hF0 := hp
  refine r_rng3 ?_
  repeat' walk_at "st"
  rw [List.length_map]
  refine q_rng8 hz ?_
  refine w_rngC (fun i σ H' => ∃ (vs : List V) (y3 : Option V), σ = [some (.int t), some (.ref ia), some (.ref F), y3] ∧ Ex H H' ∧ H' F = some (.lst vs) ∧ DpMs (F :: M) H' vs ((List.range i).map (pktD t im))) ?_ ?_ ?_
  · exact ⟨[], none, rfl, ke, hn, .nil⟩
  · rintro i σ H1 hi ⟨vs, y3, rfl, e1, hF, dv⟩
    have hia1 := e1 _ _ hia
    have lv := dpms_len dv
    rw [List.length_map, List.length_range] at lv
    have e0 : (0 : Int) + (i : Nat) * 8 = ((8 * i : Nat) : Int) := by omega
    have e8 : ((8 * i : Nat) : Int) + 8 = ((8 * i + 8 : Nat) : Int) := by omega
    rw [e0]
    repeat' walk_at "st"
    refine q_cutN hia1 (by rw [e8, cut_nat, show 8 * i + 8 - 8 * i = 8 by omega, sl_v]) (fun p1 H2 hp1 e2 h2 => ?_)
    have np1 : p1 ∉ F :: M := (mo_add (fsome hF) (mo_ex e1 mo)).new hp1
    repeat' walk_at "st"
    refine ⟨vs ++ [.ref _], _, rfl, by walk_at "exx", hu, ?_⟩
    rw [pkts_snoc]
    refine dpms_kp ku sub_hd (dpms_app (dpms_ex (by walk_at "exx") dv) (dpms_one (.tup hn (.cons (.int _) (.cons (.tup (by walk_at "lift") (.cons (.str _) (.cons (.int _) (.cons (.lst np1 (by walk_at "lift") (dpms_ints _)) (.cons ?_ .nil))))) .nil)))))
    rw [List.length_map]
    exact .int _
  · rintro σ H1 ⟨vs, y3, rfl, e1, hF, dv⟩
    repeat' walk_at "st"
    exact q _ F vs e1 hF0 hF (dpms_sub sub_tl dv)
/-! ### what the law says is due -/
def dueL : Option Nat → List V
  | none => [.str "", .bl false]
  | some e => [.str "error", .int (e : Nat)]
def szV : Option Nat → Int
  | none => -1
  | some n => (n : Nat)
def sp_due : Sp := fun vs H Q _ => ∃ (ha b : Addr) (size : Option Nat) (held : List Wd) (f total : Nat) (ws : List Int), vs = [.ref ha, .int (szV size), .int f, .ref b, .int total] ∧ H ha = some (.lst (held.map oV)) ∧ (∀ n, size = some n → held.length = n) ∧ H b = some (.lst (ws.map V.int)) ∧ ws.length ≤ 1000 ∧
  ∀ H' p, Ex H H' → H' p = some (.tup (dueL (bad size held f ws.length total))) → Q (.ref p) H'
theorem c_due {ha b : Addr} {size : Option Nat} {held : List Wd} {f total : Nat} {ws : List Int} {H : Hp} {Q : VK} {E : XK} (h1 : H ha = some (.lst (held.map oV))) (h2 : ∀ n, size = some n → held.length = n) (h3 : H b = some (.lst (ws.map V.int))) (h4 : ws.length ≤ 1000) (q : ∀ H' p, Ex H H' → H' p = some (.tup (dueL (bad size held f ws.length total))) → Q (.ref p) H') :
  sp_due [.ref ha, .int (szV size), .int f, .ref b, .int total] H Q E := ⟨ha, b, size, held, f, total, ws, rfl, h1, h2, h3, h4, q⟩
theorem ok_due (T : Glo mg) (D : Dn K mg "_law_due" s__law_due p__law_due) : Cal P w K mg base "_law_due" 1 p__law_due sp_due := by
  refine D.ok sc__law_due (fun vs H Q E h => ?_) (fun f cdv A outer s H vs Q E hr h => ?_)
  · obtain ⟨_, _, _, _, _, _, _, rfl, _⟩ := h
    rfl
  obtain ⟨ha, b, size, held, f, total, ws, rfl, hha, hsz, hb, hz, q⟩ := h
  refine ⟨_, (pss_cons (ps_if (PW.pt (pw_or (PW.pt (pw_and (pt_cmpR op_ge (pv 1) pe_int (nomark _)) (pw_and1 (pt_cmpR (op_neA (hu64 hr)) (pv 4) (pv 1) (nomark _))))) (pw_or1 (pt_cmpR op_gt (pe_op op_addA (pv 2) (pe_callB call_lenA rfl T.n_len (by decide +kernel) (pa_cons (pv 3) pa_nil))) (pv 4) (nomark _))))) (pss_one (ps_ret (pe_tup (pa_cons pe_str (pa_cons (pv 2) pa_nil))))) pss_nil) (pss_cons (ps_for PassesOwn.never rfl (pi_range1 rfl T.n_range (pa_cons (pe_callB call_lenA rfl T.n_len (by decide +kernel) (pa_cons (pv 3) pa_nil)) pa_nil)) (pg_name (i := 5) sc__law_due.nd rfl (by first | exact Or.inl rfl | exact Or.inr rfl)) (pss_one (ps_if (PW.pt (pw_and (pt_cmpR op_ge (pv 1) pe_int (nomark _)) (pw_and1 (pt_cmpR op_notN1 (pe_ix ix_seq (pv 0) (pe_op op_addA (pv 2) (pv 5)) (fun _ _ => rfl)) pe_non (nomark _))))) (pss_one (ps_ret (pe_tup (pa_cons pe_str (pa_cons (pe_op op_addA (pv 2) (pv 5)) pa_nil))))) pss_nil))) (pss_one (ps_ret (pe_tup (pa_cons pe_str (pa_cons pe_bl pa_nil))))))), ?_⟩
  try dsimp only [cxOf, Cx.nox]
  cases size with
  | none =>
    simp only [szV]
    repeat' walk_at "st"
    · rename_i cc
      rw [List.length_map] at cc
      refine q _ p ke ?_
      rw [bad_err (.inr (by omega))]
      exact hn
    · rename_i cc
      rw [List.length_map] at cc
      have b0 : bad none held f ws.length total = none := by
        unfold bad
        rw [if_neg (fun z => by rcases z with z | z; exact z.1 rfl; omega)]
      rw [b0] at q
      refine w_rng (fun i σ H' => H' = H ∧ ∃ y5 : Option V, σ = [some (.ref ha), some (.int (-1)), some (.int f), some (.ref b), some (.int total), y5]) ⟨rfl, none, rfl⟩ ?_ ?_
      · rintro i σ H' hi ⟨rfl, y5, rfl⟩
        repeat' walk_at "st"
        exact ⟨rfl, _, rfl⟩
      · rintro σ H' ⟨rfl, y5, rfl⟩
        repeat' walk_at "st"
        exact q _ p ke hn
  | some n =>
    have hl := hsz n rfl
    simp only [szV]
    repeat' walk_at "st"
    · rename_i cc
      refine q _ p ke ?_
      rw [bad_err (.inl ⟨(by intro z; cases z), fun z => cc (by cases z; rfl)⟩)]
      exact hn
    · rename_i c0 cc
      rw [List.length_map] at cc
      refine q _ p ke ?_
      rw [bad_err (.inr (by omega))]
      exact hn
    · rename_i c0 cc
      rw [List.length_map] at cc
      have : total = n := by omega
      subst this
      have b0 : bad (some total) held f ws.length total = scan held f ws.length := by
        unfold bad
        rw [if_neg (fun z => by rcases z with z | z; exact z.2 rfl; omega)]
      rw [b0] at q
      refine w_rng (fun i σ H' => H' = H ∧ (∃ y5 : Option V, σ = [some (.ref ha), some (.int total), some (.int f), some (.ref b), some (.int total), y5]) ∧ ∀ j, j < i → held.getD (f + j) none = none) ⟨rfl, ⟨none, rfl⟩, fun j hj => absurd hj (Nat.not_lt_zero j)⟩ ?_ ?_
      · rintro i σ H' hi ⟨rfl, ⟨y5, rfl⟩, hj⟩
        rw [List.length_map, Int.toNat_natCast] at hi
        obtain ⟨o, ho⟩ : ∃ o, held[f + i]? = some o := ⟨_, List.getElem?_eq_getElem (by omega)⟩
        have gd : held.getD (f + i) none = o := by rw [List.getD_eq_getElem?_getD, ho]; rfl
        have st := scan_step (h := held) (f := f) (Nat.le_of_lt hi) hj
        obtain ⟨r, hr⟩ : ∃ r, ws.length - i = r + 1 := ⟨ws.length - i - 1, by omega⟩
        rw [hr] at st
        have e0 : (f : Int) + (0 + (i : Int)) = ((f + i : Nat) : Int) := by omega
        have ea : atI (held.map oV) ((f : Int) + (0 + (i : Int))) = some (oV o) := by
          rw [e0]
          exact atI_nat (by rw [List.getElem?_map, ho]; rfl)
        cases o with
        | none =>
          simp only [oV] at ea
          repeat' walk_at "st"
          refine ⟨rfl, ⟨_, rfl⟩, fun j hj2 => ?_⟩
          by_cases e : j < i
          · exact hj j e
          · have : j = i := by omega
            rw [this]
            exact gd
        | some z =>
          simp only [oV] at ea
          repeat' walk_at "st"
          rw [e0] at hn
          refine q _ p ke ?_
          rw [st]
          show Hn p = some (.tup (dueL (match held.getD (f + i) none with | some _ => some (f + i) | none => scan held (f + i + 1) r)))
          rw [gd]
          exact hn
      · rintro σ H' ⟨rfl, ⟨y5, rfl⟩, hj⟩
        rw [List.length_map, Int.toNat_natCast] at hj
        have st := scan_step (h := held) (f := f) (Nat.le_refl _) hj
        rw [Nat.sub_self] at st
        repeat' walk_at "st"
        refine q _ p ke ?_
        rw [st]
        exact hn
variable {C CL CP : Addr}
structure Fam (K : PySem.W.Frag) (mg : Str → Option Value) (CL CP : Addr) : Prop where
  l : ErrC K mg "CodeError" CL "at"
  p : mg "PlacedError" = some (.ref CP)
  kp : PySem.W.kitOne K (.ref CL) (.ref CP) = some true
  et : PySem.W.exmOne K (.ref CL) (.ref CL) = some true
theorem pe_globR {X : Cx} {x : Str} {a : Addr} {pos : Pos} (hg : Gl X x) (hm : X.mg x = some (.ref a)) (hd : (x == ("__debug__" : Str)) = false := by decide) : PE X (.Name x pos) (tC (.ref a)) := pe_glob hg hm rfl hd
def tIsX (K : PySem.W.Frag) (a : Addr) (cls : Value) (d : Option Addr) (i : Nat) (c : V) : TE := tCB (rIsX K a cls d) (tCons (tVar i) (tCons (tC c) tNil))
def tb__law_load (C CL : Addr) : WX → TS := fun W => tRet (tTup (tCons (tC (.str "")) (tCons (tMtX C "load" (sp_load C CL) (WE W) (tVar 0) (tCons (tVar 1) (tCons (tVar 2) (tCons (tVar 3) tNil)))) tNil)))
def ts__law_load (K : PySem.W.Frag) (CP : Addr) : Addr → Value → Option Addr → TS := fun a cls d => tRet (tTup (tCons (tC (.str "error")) (tCons (tIf (tB (tIsX K a cls d 4 (.ref CP))) (tXfE K a cls d "at" (tVar 4)) (tUn (rU fun i => .int (-i)) (tC (.int 1)))) tNil)))
theorem q_isXr {a D dd : Addr} {x fl : Str} {fs : List (Str × V)} {E : Addr} {b : Bool} {H : Hp} {Q : VK} (T : ErrC K mg x D fl) (h : H dd = some (.xd fs)) (e : PySem.W.kitOne K (.ref D) (.ref E) = some b) (q : Q (.bl b) H) : rIsX K a (.ref D) (some dd) [.ref a, .ref E] H Q := q_isX T h (fun _ z => z) e q
theorem q_xfX {σ : L2.St} {a D dd : Addr} {x fl : Str} {v : V} {i : Nat} {H : Hp} {Q : VK} (T : ErrC K mg x D fl) (hi : σ[i]? = some (some (.ref a))) (h : H dd = some (.xd [(fl, v)])) (q : Q v H) : tXfE K a (.ref D) (some dd) fl (tVar i) σ H Q := q_xfE hi T.xf T.no h (by simp [List.lookup]) q
theorem r_isX {a : Addr} {cls : Value} {d : Option Addr} {i : Nat} {c v : V} {σ : L2.St} {H : Hp} {Q : VK} (hi : σ[i]? = some (some v)) (q : rIsX K a cls d [v, c] H Q) : tIsX K a cls d i c σ H Q := ⟨v, hi, q⟩
local macro_rules | `(tactic| walk_at "own") => `(tactic| first
  | ((with_reducible refine r_isX (v := ?v) ?h ?_); (case h => exact rfl))
  | ((with_reducible refine q_isXr (mg := ?mg) (x := ?x) (D := ?D) (fl := ?fl) (fs := ?fs) (b := ?b) ?t ?h ?e ?_); (case t => assumption); (case h => walk_at "lift"); (case e => assumption))
  | ((with_reducible refine q_xfX (mg := ?mg) (x := ?x) (v := ?v) ?t ?i ?h ?_); (case t => assumption); (case h => walk_at "lift"); (case i => exact rfl)))
def sp_lload (C : Addr) : Sp := fun vs H Q _ => ∃ (m dx wa ka b : Addr) (size : Option Nat) (held : List Wd) (f total : Nat) (ws : List Int), vs = [.ref m, .int f, .ref b, .int total] ∧ MemAt C H m dx wa ka size held ∧ H b = some (.lst (ws.map V.int)) ∧ held.length ≤ 1000 ∧ ws.length ≤ 1000 ∧ total ≤ 1000 ∧ b ≠ ka ∧
  (bad size held f ws.length total = none → ∀ H' wa' ka' p, Kp [m, ka] H H' → H wa' = none → (ka' = ka ∨ H ka' = none) → MemAt C H' m dx wa' ka' (some total) (put (full size held total) f ws) → H' p = some (.tup [.str "", .bl (decide ((cnt (put (full size held total) f ws) : Int) = 0))]) → Q (.ref p) H') ∧
  ∀ e, bad size held f ws.length total = some e → ∀ H' p, Ex H H' → H' p = some (.tup [.str "error", .int (e : Nat)]) → Q (.ref p) H'
theorem c_lload {m dx wa ka b : Addr} {size : Option Nat} {held : List Wd} {f total : Nat} {ws : List Int} {H : Hp} {Q : VK} {E : XK} (h1 : MemAt C H m dx wa ka size held) (h2 : H b = some (.lst (ws.map V.int))) (h3 : held.length ≤ 1000) (h4 : ws.length ≤ 1000) (h5 : total ≤ 1000) (h6 : b ≠ ka)
    (q1 : bad size held f ws.length total = none → ∀ H' wa' ka' p, Kp [m, ka] H H' → H wa' = none → (ka' = ka ∨ H ka' = none) → MemAt C H' m dx wa' ka' (some total) (put (full size held total) f ws) → H' p = some (.tup [.str "", .bl (decide ((cnt (put (full size held total) f ws) : Int) = 0))]) → Q (.ref p) H')
    (q2 : ∀ e, bad size held f ws.length total = some e → ∀ H' p, Ex H H' → H' p = some (.tup [.str "error", .int (e : Nat)]) → Q (.ref p) H') : sp_lload C [.ref m, .int f, .ref b, .int total] H Q E := ⟨m, dx, wa, ka, b, size, held, f, total, ws, rfl, h1, h2, h3, h4, h5, h6, q1, q2⟩
theorem MemAt.exx {C : Addr} {H H' : Hp} {m dx wa ka : Addr} {size : Option Nat} {held : List Wd} (k : Ex H H') (q : MemAt C H m dx wa ka size held) : MemAt C H' m dx wa ka size held := q.kp (M := []) k.kp List.not_mem_nil List.not_mem_nil List.not_mem_nil
theorem ok_lload (T : Glo mg) (D : Dn K mg "_law_load" s__law_load p__law_load) (F : Fam K mg CL CP) (G_Memory_load : MetX P w K mg base C "load" 4 p_Memory_load (sp_load C CL)) : Cal P w K mg base "_law_load" 5 p__law_load (sp_lload C) := by
  refine D.ok sc__law_load (fun vs H Q E h => ?_) (fun fa cdv A outer s H vs Q E hr h => ?_)
  · obtain ⟨_, _, _, _, _, _, _, _, _, _, rfl, _⟩ := h
    rfl
  obtain ⟨m, dx, wa, ka, b, size, held, f, total, ws, rfl, ma, hb, z1, z2, z3, nbk, q, qe⟩ := h
  have ho := ma.ob
  simp only [mfl] at ho
  have T_CodeError := F.l
  have g_PlacedError := F.p
  refine ⟨_, pss_one (ps_try_as (i := 4) (tb := tb__law_load C CL) (ts := ts__law_load K CP) (Wout := fun _ _ _ _ => False) rfl rfl sc__law_load.nd rfl rfl ⟨rfl, by decide, .inl T_CodeError.gC⟩ takes0 ?B ?S), ?_⟩
  case B => exact fun W pn xe tk po => (pss_one (ps_ret (pe_tup (pa_cons pe_str (pa_cons (pe_mtX G_Memory_load (hr.mono (by walk_at "lev")) tk (pv 0) (pa_cons (pv 1) (pa_cons (pv 2) (pa_cons (pv 3) pa_nil)))) pa_nil)))))
  case S => exact fun a oe cls d pn hz hf => (pss_one (ps_ret (pe_tup (pa_cons pe_str (pa_cons (pe_ifExp (pt_val (pe_callB (call_isX hz hf) rfl T.n_isinstance (by decide +kernel) (pa_cons (pv 4) (pa_cons (pe_globR rfl g_PlacedError) pa_nil)))) (pe_xfE hz hf (pv 4)) (pe_un un_neg pe_int)) pa_nil)))))
  try dsimp only [cxOf, Cx.nox]
  repeat' walk_at "st"
  show tb__law_load C CL (wAs K (.ref CL) 4 _ _ _) _ _ _
  unfold tb__law_load
  repeat' walk_at "st"
  refine c_load ma hb z1 z2 z3 nbk (fun b0 H1 wa1 ka1 k1 n1 n2 ma1 => ?_) (fun e b0 d H1 e1 hd => ?_)
  · repeat' walk_at "st"
    exact q b0 _ wa1 ka1 p (by walk_at "kpx") n1 n2 (ma1.exx ke) hn
  · refine ⟨true, F.et, fun _ a ha => ?_, fun z => by cases z⟩
    have k4 := F.kp
    unfold ts__law_load
    repeat' walk_at "st"
    exact qe e b0 _ p (by walk_at "exx") hn
def sp_wrong : Sp := fun vs H Q _ => ∃ (st c ia ha : Addr) (im : List Int) (size : Option Nat) (held : List Wd) (M : List Addr), vs = [.ref st, .ref ia, .ref ha, .int (szV size)] ∧ StOk st c H ∧ H ia = some (.lst (im.map V.int)) ∧ 1 ≤ im.length ∧ im.length ≤ 60 ∧ H ha = some (.lst (held.map oV)) ∧ (∀ n, size = some n → held.length = n) ∧ ia ∉ [st, c] ∧ ha ∉ [st, c] ∧ Mo M H ∧ st ∈ M ∧ c ∈ M ∧
  ∀ (H' : Hp) (p la td : Addr) (f total : Nat) (ws : List Int), Kp [st, c] H H' → StOk st c H' → la ∉ M → H' la = some (.lst (ws.map V.int)) → ws.length ≤ 8 → total ≤ 100 → H' td = some (.tup (dueL (bad size held f ws.length total))) → H' p = some (.tup [.int (f : Nat), .ref la, .int (total : Nat), .ref td]) → Q (.ref p) H'
theorem c_wrong {st c ia ha : Addr} {im : List Int} {size : Option Nat} {held : List Wd} {H : Hp} {Q : VK} {E : XK} (M : List Addr) (h1 : StOk st c H) (h2 : H ia = some (.lst (im.map V.int))) (h3 : 1 ≤ im.length) (h4 : im.length ≤ 60) (h5 : H ha = some (.lst (held.map oV))) (h6 : ∀ n, size = some n → held.length = n) (h7 : ia ∉ [st, c]) (h8 : ha ∉ [st, c]) (h9 : Mo M H) (h10 : st ∈ M) (h11 : c ∈ M)
  (q : ∀ (H' : Hp) (p la td : Addr) (f total : Nat) (ws : List Int), Kp [st, c] H H' → StOk st c H' → la ∉ M → H' la = some (.lst (ws.map V.int)) → ws.length ≤ 8 → total ≤ 100 → H' td = some (.tup (dueL (bad size held f ws.length total))) → H' p = some (.tup [.int (f : Nat), .ref la, .int (total : Nat), .ref td]) → Q (.ref p) H') : sp_wrong [.ref st, .ref ia, .ref ha, .int (szV size)] H Q E :=
  ⟨st, c, ia, ha, im, size, held, M, rfl, h1, h2, h3, h4, h5, h6, h7, h8, h9, h10, h11, q⟩
theorem ok_wrong (T : Glo mg) (D : Dn K mg "_law_wrong" s__law_wrong p__law_wrong) (G__law_draw : Cal P w K mg base "_law_draw" 1 p__law_draw sp_draw) (G__law_pick : Cal P w K mg base "_law_pick" 2 p__law_pick (sp_pick K)) (G__law_parts : Cal P w K mg base "_law_parts" 1 p__law_parts sp_parts) (G__law_due : Cal P w K mg base "_law_due" 1 p__law_due sp_due) : Cal P w K mg base "_law_wrong" 3 p__law_wrong sp_wrong := by
  refine D.ok sc__law_wrong (fun vs H Q E h => ?_) (fun fa cdv A outer s H vs Q E hr h => ?_)
  · obtain ⟨_, _, _, _, _, _, _, _, rfl, _⟩ := h
    rfl
  obtain ⟨st, c, ia, ha, im, size, held, M, rfl, so, hia, z1, z2, hha, hsz, nia, nha, mo, mst, mc, q⟩ := h
  refine ⟨_, (pss_cons (ps_set (i := 4) sc__law_wrong.nd rfl (by first | exact Or.inl rfl | exact Or.inr rfl) (pe_cal G__law_pick (hr.mono (by walk_at "lev")) rfl (pa_cons (pv 0) (pa_cons (pe_cal G__law_parts (hr.mono (by walk_at "lev")) rfl (pa_cons (pv 1) pa_nil)) pa_nil)))) (pss_cons (ps_set (i := 5) sc__law_wrong.nd rfl (by first | exact Or.inl rfl | exact Or.inr rfl) (pe_op op_addA (pe_callB call_lenA rfl T.n_len (by decide +kernel) (pa_cons (pv 1) pa_nil)) (pe_cal G__law_draw (hr.mono (by walk_at "lev")) rfl (pa_cons (pv 0) (pa_cons pe_int pa_nil))))) (pss_cons (ps_set (i := 6) sc__law_wrong.nd rfl (by first | exact Or.inl rfl | exact Or.inr rfl) (pe_op op_addA (pe_ix ix_seq (pv 4) pe_int (fun _ _ => rfl)) (pe_cal G__law_draw (hr.mono (by walk_at "lev")) rfl (pa_cons (pv 0) (pa_cons pe_int pa_nil))))) (pss_cons (ps_if (pt_cmpR op_lt (pv 3) pe_int (nomark _)) (pss_one (ps_set (i := 6) sc__law_wrong.nd rfl (by first | exact Or.inl rfl | exact Or.inr rfl) (pe_op op_addA (pe_op op_sub (pv 5) (pe_callB call_lenA rfl T.n_len (by decide +kernel) (pa_cons (pe_ix ix_seq (pv 4) pe_int (fun _ _ => rfl)) pa_nil))) pe_int))) pss_nil) (pss_cons (ps_set (i := 7) sc__law_wrong.nd rfl (by first | exact Or.inl rfl | exact Or.inr rfl) (pe_cal G__law_due (hr.mono (by walk_at "lev")) rfl (pa_cons (pv 2) (pa_cons (pv 3) (pa_cons (pv 6) (pa_cons (pe_ix ix_seq (pv 4) pe_int (fun _ _ => rfl)) (pa_cons (pv 5) pa_nil))))))) (pss_one (ps_ret (pe_tup (pa_cons (pv 6) (pa_cons (pe_ix ix_seq (pv 4) pe_int (fun _ _ => rfl)) (pa_cons (pv 5) (pa_cons (pv 7) pa_nil)))))))))))), ?_⟩
  try dsimp only [cxOf, Cx.nox]
  repeat' walk_at "st"
  refine c_parts M hia (by omega) mo (fun H1 p1 vs1 e1 np1 hp1 dv0 => ?_)
  have dv1 := dpms_sub (N := M) sub_tl dv0
  have lv := dpms_len dv1
  unfold prts at lv
  rw [List.length_map, List.length_range] at lv
  have lnp : 0 < np im ∧ np im ≤ 20 := by unfold np; omega
  have so1 := st_ex e1 so
  refine r_nil ?_
  refine c_pick so1 hp1 (st_fresh so np1) (by omega) (fun j v H2 ej k2 so2 => ?_)
  obtain ⟨dd, hd, dv⟩ := dpms_at dv1 ej
  unfold prts at hd
  rw [List.getElem?_map] at hd
  obtain ⟨i, hi, rfl⟩ := Option.map_eq_some_iff.mp hd
  have sub2 : ∀ x, x ∈ [st, c] → x ∈ M := fun x hx => by
    simp only [List.mem_cons, List.not_mem_nil, or_false] at hx
    rcases hx with rfl | rfl
    · exact mst
    · exact mc
  obtain ⟨tp, xs, rfl, htp, dxs⟩ := dpm_tup (dpm_kp k2 sub2 dv)
  obtain ⟨v1, xs1, rfl, d1, dxs⟩ := dpms_cons dxs
  obtain ⟨v2, xs2, rfl, d2, dxs⟩ := dpms_cons dxs
  obtain ⟨v3, xs3, rfl, d3, dxs⟩ := dpms_cons dxs
  obtain ⟨v4, xs4, rfl, d4, dxs⟩ := dpms_cons dxs
  cases dpms_nil dxs
  cases dpm_str d1
  cases dpm_int d2
  cases dpm_int d4
  obtain ⟨la, ys, rfl, nla, hla, dys⟩ := dpm_lst d3
  cases dpms_intsV dys
  have nla2 : la ∉ [st, c] := fun z => nla (sub2 _ z)
  have lsl : (sl im i).length ≤ 8 := by unfold sl; rw [List.length_take]; omega
  have hia2 := k2.out _ _ nia (e1 _ _ hia)
  repeat' walk_at "st"
  · rename_i d0 Ha m0 m1 ka sa cc
    obtain ⟨d0, rfl⟩ := Int.eq_ofNat_of_zero_le m0
    obtain ⟨dn, rfl⟩ := Int.eq_ofNat_of_zero_le n0
    have eT : ((im.map V.int).length : Int) + (d0 : Int) = ((im.length + d0 : Nat) : Int) := by rw [List.length_map]; omega
    have lsi : (sl im i).length ≤ im.length := by unfold sl; rw [List.length_take, List.length_drop]; omega
    have eF : ((im.map V.int).length : Int) + (d0 : Int) - ((sl im i).map V.int).length + 1 = ((im.length + d0 - (sl im i).length + 1 : Nat) : Int) := by rw [List.length_map, List.length_map]; omega
    rw [eF, eT]
    have hha2 : Hn ha = some (.lst (held.map oV)) := by
      have := k2.out _ _ nha (e1 _ _ hha)
      walk_at "lift"
    refine c_due hha2 hsz (by walk_at "lift") (by omega) (fun H9 td e9 h9 => ?_)
    repeat' walk_at "st"
    exact q _ p la td _ _ _ (by walk_at "kpx") (by walk_at "st_ok") nla (by walk_at "lift") lsl (by omega) (by walk_at "lift") hn
  · rename_i d0 Ha m0 m1 ka sa cc
    obtain ⟨d0, rfl⟩ := Int.eq_ofNat_of_zero_le m0
    obtain ⟨dn, rfl⟩ := Int.eq_ofNat_of_zero_le n0
    have eT : ((im.map V.int).length : Int) + (d0 : Int) = ((im.length + d0 : Nat) : Int) := by rw [List.length_map]; omega
    have lsi : (sl im i).length ≤ im.length := by unfold sl; rw [List.length_take, List.length_drop]; omega
    have eF : ((8 * i : Nat) : Int) + (dn : Int) = ((8 * i + dn : Nat) : Int) := by omega
    rw [eF, eT]
    have hha2 : Hn ha = some (.lst (held.map oV)) := by
      have := k2.out _ _ nha (e1 _ _ hha)
      walk_at "lift"
    refine c_due hha2 hsz (by walk_at "lift") (by omega) (fun H9 td e9 h9 => ?_)
    repeat' walk_at "st"
    exact q _ p la td _ _ _ (by walk_at "kpx") (by walk_at "st_ok") nla (by walk_at "lift") lsl (by omega) (by walk_at "lift") hn
/-! ### tags: who is who among the addresses -/
def Al (H H' : Hp) : Prop := ∀ x, H x ≠ none → H' x ≠ none
theorem al_ex {H H' : Hp} (e : Ex H H') : Al H H' := fun x h z => by
  cases h1 : H x with
  | none => exact h h1
  | some o => rw [e _ _ h1] at z; cases z
theorem al_kp {M : List Addr} {H H' : Hp} (k : Kp M H H') (m : ∀ x, x ∈ M → H' x ≠ none) : Al H H' := fun x h z => by
  by_cases hx : x ∈ M
  · exact m x hx z
  · cases h1 : H x with
    | none => exact h h1
    | some o => rw [k.out _ _ hx h1] at z; cases z
theorem Al.trans {H H1 H2 : Hp} (a : Al H H1) (b : Al H1 H2) : Al H H2 := fun x h => b x (a x h)
theorem al_st {st c : Addr} {H H' : Hp} (k : Kp [st, c] H H') (s : StOk st c H') : Al H H' := al_kp k fun x hx => by
  obtain ⟨⟨ns, z, a, b, d⟩, e⟩ := s
  simp only [List.mem_cons, List.not_mem_nil, or_false] at hx
  rcases hx with rfl | rfl
  · exact fsome a
  · exact fsome b
abbrev Tau := Addr → Option (Nat × Nat)
def TgOk (τ : Tau) (H : Hp) : Prop := ∀ x t, τ x = some t → H x ≠ none
def TgLe (τ τ' : Tau) : Prop := ∀ x t, τ x = some t → τ' x = some t
theorem TgLe.refl (τ : Tau) : TgLe τ τ := fun _ _ h => h
theorem TgLe.trans {τ τ1 τ2 : Tau} (a : TgLe τ τ1) (b : TgLe τ1 τ2) : TgLe τ τ2 := fun x t h => b x t (a x t h)
theorem TgOk.al {τ : Tau} {H H' : Hp} (k : TgOk τ H) (a : Al H H') : TgOk τ H' := fun x t h => a x (k x t h)
theorem TgOk.nil {H : Hp} : TgOk (fun _ => none) H := fun x t h => by cases h
theorem tg_new {τ : Tau} {H H' : Hp} (k : TgOk τ H) (a : Al H H') {p : Addr} (n : H p = none) (s : H' p ≠ none) (t : Nat × Nat) : ∃ τ', TgLe τ τ' ∧ τ' p = some t ∧ TgOk τ' H' := by
  refine ⟨fun x => if x = p then some t else τ x, fun x u h => ?_, if_pos rfl, fun x u h => ?_⟩
  · have : x ≠ p := fun z => k x u h (by rw [z]; exact n)
    show (if x = p then some t else τ x) = some u
    rw [if_neg this]
    exact h
  · by_cases z : x = p
    · rw [z]; exact s
    · have h' : (if x = p then some t else τ x) = some u := h
      rw [if_neg z] at h'
      exact a x (k x u h')
theorem ne_tg {τ : Tau} {a b : Addr} {s t : Nat × Nat} (h : τ a = some s) (h' : τ b = some t) (n : s ≠ t) : a ≠ b := fun z => by
  rw [z, h'] at h
  exact n (Option.some.inj h).symm
/-- a family with one more -/
def fset (a : Nat → Addr) (i : Nat) (p : Addr) : Nat → Addr := fun k => if k = i then p else a k
theorem fset_eq {a : Nat → Addr} {i : Nat} {p : Addr} : fset a i p i = p := if_pos rfl
theorem fset_lt {a : Nat → Addr} {i k : Nat} {p : Addr} (h : k < i) : fset a i p k = a k := if_neg (by omega)
def frow (a : Nat → Addr) (n : Nat) : List V := (List.range n).map fun k => V.ref (a k)
theorem frow_len {a : Nat → Addr} {n : Nat} : (frow a n).length = n := by unfold frow; rw [List.length_map, List.length_range]
theorem frow_at {a : Nat → Addr} {n k : Nat} (h : k < n) : (frow a n)[k]? = some (.ref (a k)) := by
  unfold frow
  rw [List.getElem?_map, List.getElem?_range h]
  rfl
theorem frow_set {a : Nat → Addr} {i : Nat} {p : Addr} : frow (fset a i p) (i + 1) = frow a i ++ [.ref p] := by
  unfold frow
  rw [List.range_succ, List.map_append]
  congr 1
  · refine List.map_congr_left fun k hk => ?_
    rw [fset_lt (List.mem_range.mp hk)]
  · show [V.ref (fset a i p i)] = _
    rw [fset_eq]
theorem tg_fam {τ τ' : Tau} {f i : Nat} {a : Nat → Addr} {p : Addr} (le : TgLe τ τ') (h : ∀ k, k < i → τ (a k) = some (f, k)) (n : τ' p = some (f, i)) : ∀ k, k < i + 1 → τ' (fset a i p k) = some (f, k) := fun k hk => by
  by_cases c : k < i
  · rw [fset_lt c]; exact le _ _ (h k c)
  · have : k = i := by omega
    subst this
    rw [fset_eq]; exact n
theorem fam_step {P : Nat → Addr → Prop} {i : Nat} {a : Nat → Addr} {p : Addr} (h : ∀ k, k < i → P k (a k)) (n : P i p) : ∀ k, k < i + 1 → P k (fset a i p k) := fun k hk => by
  by_cases c : k < i
  · rw [fset_lt c]; exact h k c
  · have : k = i := by omega
    subst this
    rw [fset_eq]; exact n
theorem kp_upd {H H9 : Hp} {p : Addr} {xs : List V} {o' : HO} (h : H p = some (.lst xs)) (e : upd H p o' = H9) : Kp [p] H H9 := by
  rw [← e]
  exact kp_one h (by intro _ z; cases z)
local macro_rules | `(tactic| walk_at "ne1") => `(tactic| first
  | (refine ne_tg (τ := ?τ) (s := ?s) (t := ?t) ?a ?b ?n; (case a => assumption); (case b => assumption); (case n => intro z; have z1 := Prod.mk.inj z; omega))
  | fail)
theorem tg0 {st c L : Addr} {H : Hp} (so : StOk st c H) (nL : L ∉ [st, c]) (h : H L ≠ none) : ∃ τ : Tau, τ st = some (7, 0) ∧ τ c = some (7, 1) ∧ τ L = some (8, 0) ∧ TgOk τ H := by
  obtain ⟨⟨ns, z, a, b, d⟩, e⟩ := so
  have h1 : L ≠ st := fun z => nL (by simp [z])
  have h2 : L ≠ c := fun z => nL (by simp [z])
  refine ⟨fun x => if x = st then some (7, 0) else if x = c then some (7, 1) else if x = L then some (8, 0) else none, if_pos rfl, ?_, ?_, fun x t hx => ?_⟩
  · show (if c = st then _ else _) = _
    rw [if_neg e, if_pos rfl]
  · show (if L = st then _ else _) = _
    rw [if_neg h1, if_neg h2, if_pos rfl]
  · have hx' : (if x = st then some (7, 0) else if x = c then some (7, 1) else if x = L then some (8, 0) else none) = some t := hx
    by_cases q1 : x = st
    · rw [q1]; exact fsome a
    · rw [if_neg q1] at hx'
      by_cases q2 : x = c
      · rw [q2]; exact fsome b
      · rw [if_neg q2] at hx'
        by_cases q3 : x = L
        · rw [q3]; exact h
        · rw [if_neg q3] at hx'; cases hx'
/-- a dict by channels -/
def krow (a : Nat → Addr) (n : Nat) : List (Key × V) := (List.range n).map fun (k : Nat) => (Sum.inl (k : Int), V.ref (a k))
theorem krow_find {a : Nat → Addr} {k : Nat} : ∀ n, valV (krow a n) (Sum.inl (k : Int)) = if k < n then some (.ref (a k)) else none
  | 0 => by rw [if_neg (Nat.not_lt_zero k)]; simp [krow, valV]
  | n + 1 => by
    have ih := krow_find (a := a) (k := k) n
    unfold valV krow at ih ⊢
    rw [List.range_succ, List.map_append, List.find?_append]
    by_cases c : k < n
    · rw [if_pos c] at ih
      rw [if_pos (by omega)]
      obtain ⟨x, hx, hv⟩ := Option.map_eq_some_iff.mp ih
      rw [hx]
      exact congrArg some hv
    · rw [if_neg c] at ih
      rw [Option.map_eq_none_iff.mp ih]
      by_cases d : k = n
      · subst d
        rw [if_pos (by omega)]
        simp
      · rw [if_neg (by omega)]
        have : ¬ (n : Int) = (k : Int) := by omega
        simp [this]
theorem krow_put {a : Nat → Addr} {i : Nat} {p : Addr} : putK (krow a i) (Sum.inl ((0 : Int) + (i : Int))) (.ref p) = krow (fset a i p) (i + 1) := by
  rw [Int.zero_add, putK_new _ (by rw [krow_find, if_neg (Nat.lt_irrefl i)])]
  unfold krow
  rw [List.range_succ, List.map_append]
  congr 1
  · refine List.map_congr_left fun k hk => ?_
    rw [fset_lt (List.mem_range.mp hk)]
  · show [_] = [(Sum.inl (i : Int), V.ref (fset a i p i))]
    rw [fset_eq]
theorem krow_len {a : Nat → Addr} {n : Nat} : (krow a n).length = n := by unfold krow; rw [List.length_map, List.length_range]
theorem frow_atI {a : Nat → Addr} {n k : Nat} (h : k < n) : atI (frow a n) ((0 : Int) + (k : Int)) = some (.ref (a k)) := by
  rw [Int.zero_add]
  exact atI_nat (frow_at h)
theorem atI_0 {α : Type} {xs : List α} {k : Nat} {x : α} (h : xs[k]? = some x) : atI xs ((0 : Int) + (k : Int)) = some x := by
  rw [Int.zero_add]
  exact atI_nat h
theorem TgOk.none {τ : Tau} {H : Hp} (k : TgOk τ H) {p : Addr} (n : H p = none) : τ p = none := by
  cases h : τ p with
  | none => rfl
  | some t => exact absurd n (k p t h)
theorem tg_add {τ : Tau} {H' : Hp} (k : TgOk τ H') {p : Addr} (n : τ p = none) (s : H' p ≠ none) (t : Nat × Nat) : ∃ τ', TgLe τ τ' ∧ τ' p = some t ∧ TgOk τ' H' ∧ ∀ x, x ≠ p → τ x = none → τ' x = none := by
  refine ⟨fun x => if x = p then some t else τ x, fun x u h => ?_, if_pos rfl, fun x u h => ?_, fun x hx h => ?_⟩
  · have : x ≠ p := fun z => by rw [z, n] at h; cases h
    show (if x = p then some t else τ x) = some u
    rw [if_neg this]
    exact h
  · by_cases z : x = p
    · rw [z]; exact s
    · have h' : (if x = p then some t else τ x) = some u := h
      rw [if_neg z] at h'
      exact k x u h'
  · show (if x = p then some t else τ x) = none
    rw [if_neg hx]
    exact h
/-- a family of new lists that a comprehension makes -/
def FamG (τ1 : Tau) (f : Nat) (H3 : Hp) (D : Addr) (g : Nat → List V) (i : Nat) (H' : Hp) : Prop := ∃ (τ : Tau) (a : Nat → Addr), TgLe τ1 τ ∧ TgOk τ H' ∧ (∀ k, k < i → τ (a k) = some (f, k)) ∧ Ex H3 H' ∧ H' D = some (.lst (frow a i)) ∧ ∀ k, k < i → H' (a k) = some (.lst (g k))
theorem FamG.zero {τ1 : Tau} {f d : Nat} {H3 : Hp} {D : Addr} {g : Nat → List V} (tg : TgOk τ1 H3) (hD : H3 D = none) : ∃ τ2, TgLe τ1 τ2 ∧ τ2 D = some (8, d) ∧ FamG τ2 f H3 D g 0 (upd H3 D (.lst [])) := by
  obtain ⟨τ2, le2, t2, tg2⟩ := tg_new tg (al_ex (Ex.mk (o := .lst []) hD rfl)) hD (fsome upd_same) (8, d)
  exact ⟨τ2, le2, t2, τ2, fun _ => 0, TgLe.refl _, tg2, fun k hk => absurd hk (Nat.not_lt_zero k), Ex.mk hD rfl, upd_same, fun k hk => absurd hk (Nat.not_lt_zero k)⟩
theorem FamG.step {τ1 : Tau} {f d i : Nat} {H3 H4 H5 : Hp} {D p : Addr} {g : Nat → List V} (hD : H3 D = none) (tD : τ1 D = some (8, d)) (nf : f ≠ 8) (h : FamG τ1 f H3 D g i H4) (e : Ex H4 H5) (np : H4 p = none) (hp : H5 p = some (.lst (g i))) (li : i ≤ 1000) :
    ∃ acc, H5 D = some (.lst acc) ∧ acc.length < sizeLine ∧ FamG τ1 f H3 D g (i + 1) (upd H5 D (.lst (acc ++ [.ref p]))) := by
  obtain ⟨τ, a, le, tg, ta, k3, hD4, hg⟩ := h
  have hD5 := e _ _ hD4
  refine ⟨_, hD5, sl1000' (by rw [frow_len]; omega), ?_⟩
  generalize hq : upd H5 D _ = H9
  have k9 := kp_upd hD5 hq
  have h9 := at_new hq
  have npD : p ≠ D := (ne_of_none hD4 np).symm
  have a9 : Al H4 H9 := (al_ex e).trans (al_kp k9 fun x hx => by rw [List.mem_singleton.mp hx]; exact fsome h9)
  have hp9 : H9 p = some (.lst (g i)) := k9.out _ _ (nin_c npD List.not_mem_nil) hp
  obtain ⟨τ', le', tp', tg'⟩ := tg_new tg a9 np (fsome hp9) (f, i)
  refine ⟨τ', fset a i p, le.trans le', tg', tg_fam le' ta tp', ?_, by rw [h9, frow_set], fam_step (P := fun k x => H9 x = some (.lst (g k))) (fun k hk => ?_) hp9⟩
  · exact fun b u hb => k9.out _ _ (nin_c (ne_of_none hb hD) List.not_mem_nil) (e _ _ (k3 _ _ hb))
  · refine k9.out _ _ (nin_c (ne_tg (ta k hk) (le _ _ tD) (fun z => nf (Prod.mk.inj z).1)) List.not_mem_nil) (e _ _ (hg k hk))
variable {C CL CP : Addr}
theorem c_state {a : Addr} {ns : List Int} {H : Hp} {Q : VK} {E : XK} (h1 : SqL K H a (ns.map V.int)) (h2 : ns.length ≤ 63) (q : ∀ st c H', Ex H H' → H st = none → H c = none → StOk st c H' → Q (.ref st) H') : sp_state K [.ref a] H Q E := ⟨a, ns, rfl, h1, h2, q⟩
def sp_law (K : PySem.W.Frag) : Sp := fun vs H Q _ => ∃ (a : Addr) (ns : List Int), vs = [.ref a] ∧ SqL K H a (ns.map V.int) ∧ ns.length ≤ 63 ∧ ∀ H', Q (.bl true) H'
theorem q_popN {l : Addr} {xs : List V} {j : Nat} {x : V} {H : Hp} {Q : VK} (h : H l = some (.lst xs)) (hz : xs.length ≤ 1000) (hx : xs[j]? = some x) (q : ∀ Hn, Kp [l] H Hn → Hn l = some (.lst (xs.eraseIdx j)) → Q x Hn) : rPopAt (.ref l) [.int (j : Nat)] H Q := by
  have hj := (List.getElem?_eq_some_iff.mp hx).1
  refine ⟨l, xs, j, j, x, rfl, rfl, h, by omega, by omega, ?_, hx, q _ (kp_one h (by intro _ z; cases z)) upd_same⟩
  unfold seqIndex?
  simp
  omega
theorem dpms_erase {M : List Addr} {H : Hp} : ∀ {vs : List V} {ds : List PyData} (j : Nat), DpMs M H vs ds → DpMs M H (vs.eraseIdx j) (ds.eraseIdx j)
  | _, _, _, .nil => .nil
  | _, _, 0, .cons a t => t
  | _, _, j + 1, .cons a t => .cons a (dpms_erase j t)
theorem prt_lay {im : List Int} {i : Nat} : (prtD im i).canLay0 = true := by
  have h1 : (PyData.str "load").canLay0 = true := by decide +kernel
  simp only [PyData.canLay0] at h1
  simp only [prtD, prtL, PyData.canLay0, PyData.canLayAll0, fints_lay, h1, Bool.and_self]
theorem prt_depth {im : List Int} {i : Nat} : (prtD im i).depth ≤ 5 := by simp [prtD, prtL, PyData.depth, PyData.depthAll, fints_depth]
theorem pkt_lay {t : Int} {im : List Int} : PyData.canLayAll0 (pkts t im) = true := flay_map _ fun i _ => by
  have := prt_lay (im := im) (i := i)
  simp only [pktD, PyData.canLay0, PyData.canLayAll0, this, Bool.and_self]
theorem pkt_depth {t : Int} {im : List Int} : PyData.depthAll (pkts t im) ≤ 20 := by
  have := fdepth_map (f := pktD t im) (b := 7) (List.range (np im)) fun i _ => by
    have := prt_depth (im := im) (i := i)
    simp only [pktD, PyData.depth, PyData.depthAll]
    omega
  unfold pkts
  omega
def wdD : Wd → PyData
  | none => .none
  | some i => .int i
theorem wd_dp {K : PySem.W.Frag} {H : Hp} : ∀ h : List Wd, DpAll K H (h.map oV) (h.map wdD)
  | [] => .nil
  | none :: r => .cons .non (wd_dp r)
  | some i :: r => .cons (.int i) (wd_dp r)
theorem wd_lay {h : List Wd} : PyData.canLayAll0 (h.map wdD) = true := flay_map _ fun x _ => by cases x <;> simp [wdD, PyData.canLay0]
theorem wd_depth {h : List Wd} : PyData.depthAll (h.map wdD) ≤ 20 := by
  have := fdepth_map (f := wdD) (b := 1) h fun x _ => by cases x <;> simp [wdD, PyData.depth]
  omega
theorem q_neWd {K : PySem.W.Frag} {H : Hp} {Q : VK} {a b : Addr} {h : List Wd} (h1 : H a = some (.lst (h.map oV))) (h2 : H b = some (.lst (h.map oV))) (q : Q (.bl false) H) : rNeA K (.ref a) (.ref b) H Q :=
  fq_neDat (.lst (sql h1) (wd_dp h)) (.lst (sql h2) (wd_dp h)) wd_lay wd_depth q
theorem ftup_shaped {ds : List PyData} (h1 : PyData.canLayAll0 ds = true) (h2 : PyData.depthAll ds ≤ 20) : SeqAt.shaped (.tuple ds) = true := by
  have h3 : PyData.depthAll ds + 1 ≤ 64 := by omega
  simp [SeqAt.shaped, PyData.canLay0, PyData.depth, h1, h3]
theorem fq_neTup {K : PySem.W.Frag} {H : Hp} {Q : VK} {a b : V} {ds : List PyData} (h1 : Dp K H a (.tuple ds)) (h2 : Dp K H b (.tuple ds)) (l : PyData.canLayAll0 ds = true) (d : PyData.depthAll ds ≤ 20) (q : Q (.bl false) H) : rNeA K a b H Q :=
  .inr ⟨_, _, h1, h2, ftup_shaped l d, ftup_shaped l d, by rw [SeqAt.eqv_refl _ (by simp [PyData.canLay0, l])]; exact q⟩
theorem err_lay {x : Str} {e : Int} (h : x ∈ (["", "error"] : List Str)) : PyData.canLayAll0 [.str x, .int e] = true := by
  have k : ∀ x ∈ (["", "error"] : List Str), (PyData.str x).canLay0 = true := by decide +kernel
  have := k x h
  simp only [PyData.canLay0] at this
  simp [PyData.canLayAll0, PyData.canLay0, this]
theorem q_neErr {K : PySem.W.Frag} {H : Hp} {Q : VK} {a b : Addr} {e : Int} (h1 : H a = some (.tup [.str "error", .int e])) (h2 : H b = some (.tup [.str "error", .int e])) (q : Q (.bl false) H) : rNeA K (.ref a) (.ref b) H Q :=
  fq_neTup (ds := [.str "error", .int e]) (.tup (sqt h1) (.cons (.str _) (.cons (.int _) .nil))) (.tup (sqt h2) (.cons (.str _) (.cons (.int _) .nil))) (err_lay (by simp)) (by simp [PyData.depthAll, PyData.depth]) q
theorem q_neOk {K : PySem.W.Frag} {H : Hp} {Q : VK} {a b : Addr} {e e' : Bool} (ee : e = e') (h1 : H a = some (.tup [.str "", .bl e])) (h2 : H b = some (.tup [.str "", .bl e'])) (q : Q (.bl false) H) : rNeA K (.ref a) (.ref b) H Q := by
  subst ee
  have k : (PyData.str "").canLay0 = true := by decide +kernel
  simp only [PyData.canLay0] at k
  exact fq_neTup (ds := [.str "", .bool e]) (.tup (sqt h1) (.cons (.str _) (.cons (.bl _) .nil))) (.tup (sqt h2) (.cons (.str _) (.cons (.bl _) .nil))) (by simp [PyData.canLayAll0, PyData.canLay0, k]) (by simp [PyData.depthAll, PyData.depth]) q
theorem inv_cnt (h : List Wd) : (!inV .non (h.map oV)) = decide ((cnt h : Int) = 0) := by
  induction h with
  | nil => rfl
  | cons x r ih =>
    unfold inV at ih ⊢
    rw [List.map_cons, List.any_cons]
    cases x with
    | none =>
      have : cnt (none :: r) = cnt r + 1 := by unfold cnt; simp
      rw [this]
      have e : eqV (oV none) V.non = true := by simp [oV, eqV]
      rw [e, Bool.true_or]
      symm
      simp
      omega
    | some i =>
      have : cnt (some i :: r) = cnt r := by unfold cnt; simp
      rw [this, ← ih]
      have e : eqV (oV (some i)) V.non = false := by simp [oV, eqV]
      rw [e, Bool.false_or]
theorem flat_wd (h : List Wd) : (h.map oV).all flatV = true := by
  rw [List.all_map, List.all_eq_true]
  intro x _
  cases x <;> rfl
/-- what is held while rs are left -/
def hd (im : List Int) (rs : List Nat) : List Wd := (List.range im.length).map fun x => if x / 8 ∈ rs then none else some (im.getD x 0)
theorem hd_len {im : List Int} {rs : List Nat} : (hd im rs).length = im.length := by unfold hd; rw [List.length_map, List.length_range]
theorem hd_at {im : List Int} {rs : List Nat} {x : Nat} (h : x < im.length) : (hd im rs)[x]? = some (if x / 8 ∈ rs then none else some (im.getD x 0)) := by
  unfold hd
  rw [List.getElem?_map, List.getElem?_range h]
  rfl
theorem hd_all {im : List Int} : hd im (List.range (np im)) = List.replicate im.length none := by
  refine List.ext_getElem? fun x => ?_
  by_cases h : x < im.length
  · rw [hd_at h, List.getElem?_replicate, if_pos h, if_pos (List.mem_range.mpr (by unfold np; omega))]
  · rw [List.getElem?_eq_none (by rw [hd_len]; omega), List.getElem?_eq_none (by rw [List.length_replicate]; omega)]
theorem hd_nil {im : List Int} : hd im [] = im.map some := by
  refine List.ext_getElem? fun x => ?_
  by_cases h : x < im.length
  · rw [hd_at h, if_neg List.not_mem_nil, List.getElem?_map, List.getElem?_eq_getElem h, List.getD_eq_getElem?_getD, List.getElem?_eq_getElem h]
    rfl
  · rw [List.getElem?_eq_none (by rw [hd_len]; omega), List.getElem?_eq_none (by rw [List.length_map]; omega)]
theorem sl_len {im : List Int} {r : Nat} : (sl im r).length = min 8 (im.length - 8 * r) := by unfold sl; rw [List.length_take, List.length_drop]
theorem hd_put {im : List Int} {rs : List Nat} {j r : Nat} (nd : rs.Nodup) (hj : rs[j]? = some r) (hr : r < np im) : put (hd im rs) (8 * r) (sl im r) = hd im (rs.eraseIdx j) := by
  have hlj := (List.getElem?_eq_some_iff.mp hj).1
  have er : ∀ y, y ≠ r → (y ∈ rs.eraseIdx j ↔ y ∈ rs) := fun y hy => by
    rw [List.mem_eraseIdx_iff_getElem?]
    constructor
    · rintro ⟨i, _, hi⟩
      exact List.mem_of_getElem? hi
    · intro hm
      obtain ⟨i, hi⟩ := List.getElem?_of_mem hm
      exact ⟨i, fun z => hy (by rw [z, hj] at hi; exact (Option.some.inj hi).symm), hi⟩
  have nr : r ∉ rs.eraseIdx j := by
    rw [List.mem_eraseIdx_iff_getElem?]
    rintro ⟨i, hi, h⟩
    exact hi ((List.getElem?_inj (List.getElem?_eq_some_iff.mp h).1 nd).mp (h.trans hj.symm))
  have hl := sl_len (im := im) (r := r)
  have hrn : 8 * r < im.length := by unfold np at hr; omega
  refine List.ext_getElem? fun x => ?_
  unfold put
  by_cases h : x < im.length
  · rw [hd_at h]
    have ht : ((hd im rs).take (8 * r)).length = 8 * r := by rw [List.length_take, hd_len]; omega
    by_cases h1 : x < 8 * r
    · rw [List.append_assoc, List.getElem?_append_left (by omega), List.getElem?_take, if_pos h1, hd_at h]
      have : x / 8 ≠ r := by omega
      simp only [er _ this]
    · by_cases h2 : x < 8 * r + (sl im r).length
      · rw [List.append_assoc, List.getElem?_append_right (by omega), List.getElem?_append_left (by rw [List.length_map]; omega), ht, List.getElem?_map]
        have e : x / 8 = r := by omega
        rw [e, if_neg nr]
        unfold sl
        rw [List.getElem?_take, if_pos (by omega), List.getElem?_drop, show 8 * r + (x - 8 * r) = x by omega, List.getElem?_eq_getElem h, List.getD_eq_getElem?_getD, List.getElem?_eq_getElem h]
        rfl
      · rw [List.append_assoc, List.getElem?_append_right (by omega), List.getElem?_append_right (by rw [List.length_map]; omega), ht, List.length_map, List.getElem?_drop, show 8 * r + (sl im r).length + (x - 8 * r - (sl im r).length) = x by omega, hd_at h]
        have : x / 8 ≠ r := by omega
        simp only [er _ this]
  · rw [List.getElem?_eq_none (by rw [List.length_append, List.length_append, List.length_take, List.length_map, List.length_drop, hd_len]; omega), List.getElem?_eq_none (by rw [hd_len]; omega)]
theorem scan_ok {h : List Wd} : ∀ {k f : Nat}, (∀ i, i < k → h.getD (f + i) none = none) → scan h f k = none
  | 0, _, _ => rfl
  | k + 1, f, hh => by
    show (match h.getD f none with | some _ => some f | none => scan h (f + 1) k) = none
    rw [show h.getD f none = none from hh 0 (by omega)]
    exact scan_ok fun i hi => by have := hh (i + 1) (by omega); rwa [show f + (i + 1) = f + 1 + i by omega] at this
theorem hd_bad {im : List Int} {rs : List Nat} {r : Nat} (hm : r ∈ rs) (hr : r < np im) : bad (some im.length) (hd im rs) (8 * r) (sl im r).length im.length = none := by
  have hl := sl_len (im := im) (r := r)
  have hrn : 8 * r < im.length := by unfold np at hr; omega
  unfold bad
  rw [if_neg (fun z => by rcases z with z | z; exact z.2 rfl; omega)]
  refine scan_ok fun i hi => ?_
  rw [List.getD_eq_getElem?_getD, hd_at (by omega), if_pos (by rw [show (8 * r + i) / 8 = r by omega]; exact hm)]
  rfl
theorem none_bad {im : List Int} {r : Nat} (hr : r < np im) : bad none [] (8 * r) (sl im r).length im.length = none := by
  have hl := sl_len (im := im) (r := r)
  have hrn : 8 * r < im.length := by unfold np at hr; omega
  unfold bad
  rw [if_neg (fun z => by rcases z with z | z; exact z.1 rfl; omega)]
mutual
theorem dpm_obj {M : List Addr} {H : Hp} {p : Addr} {o : HO} (h : H p = some o) (n : ∀ xs, o ≠ .lst xs) : ∀ {v : V} {d : PyData}, DpM M H v d → DpM (p :: M) H v d
  | _, _, .non => .non
  | _, _, .bl b => .bl b
  | _, _, .int i => .int i
  | _, _, .str x => .str x
  | _, _, .lst m h1 t => .lst (nin_c (fun z => n _ (Option.some.inj (h.symm.trans (z ▸ h1)))) m) h1 (dpms_obj h n t)
  | _, _, .tup h1 t => .tup h1 (dpms_obj h n t)
theorem dpms_obj {M : List Addr} {H : Hp} {p : Addr} {o : HO} (h : H p = some o) (n : ∀ xs, o ≠ .lst xs) : ∀ {vs : List V} {ds : List PyData}, DpMs M H vs ds → DpMs (p :: M) H vs ds
  | _, _, .nil => .nil
  | _, _, .cons a t => .cons (dpm_obj h n a) (dpms_obj h n t)
end
theorem ifk {t : TT} {ta tb : TE} {σ : L2.St} {H : Hp} {Q : VK} {v : V} (h : ∀ Q' : VK, Q' v H → tIf t ta tb σ H Q') (q : Q v H) : tIf t ta tb σ H Q := h Q q
def szi (im : List Int) (i : Nat) : Option Nat := if i = 0 then none else some im.length
def hwi (im : List Int) (i : Nat) (rs : List Nat) : List Wd := if i = 0 then [] else hd im rs
theorem szi_len {im : List Int} {i n : Nat} {rs : List Nat} (h : szi im i = some n) : (hwi im i rs).length = n := by
  unfold szi at h
  unfold hwi
  by_cases c : i = 0
  · rw [if_pos c] at h; cases h
  · rw [if_neg c] at h ⊢
    cases h
    exact hd_len
theorem hwi_le {im : List Int} {i : Nat} {rs : List Nat} : (hwi im i rs).length ≤ im.length := by
  unfold hwi
  split
  · exact Nat.zero_le _
  · rw [hd_len]; exact Nat.le_refl _
theorem ifsk {c : TT} {ts us : TS} {nx bk ct : L2.St → Hp → Prop} {rt : VK} {σ : L2.St} {H : Hp} (R : L2.St → Hp → Prop) (h : ∀ nx' : L2.St → Hp → Prop, (∀ σ' H', R σ' H' → nx' σ' H') → tIfS c ts us ⟨nx', rt, bk, ct⟩ σ H) (q : ∀ σ' H', R σ' H' → nx σ' H') : tIfS c ts us ⟨nx, rt, bk, ct⟩ σ H := h nx q
theorem full_hd {im : List Int} {i : Nat} {rs : List Nat} (h : i = 0 → rs = List.range (np im)) : full (szi im i) (hwi im i rs) im.length = hd im rs := by
  unfold full szi hwi
  by_cases c : i = 0
  · rw [if_pos c, if_pos c, h c, hd_all]
  · rw [if_neg c, if_neg c]
theorem ok_bad {im : List Int} {i r : Nat} {rs : List Nat} (hm : r ∈ rs) (hr : r < np im) : bad (szi im i) (hwi im i rs) (8 * r) (sl im r).length im.length = none := by
  unfold szi hwi
  by_cases c : i = 0
  · rw [if_pos c, if_pos c]; exact none_bad hr
  · rw [if_neg c, if_neg c]; exact hd_bad hm hr
variable {C CL CP : Addr}
theorem er_map {α β : Type} {f : α → β} : ∀ (l : List α) (k : Nat), (l.map f).eraseIdx k = (l.eraseIdx k).map f
  | [], _ => rfl
  | _ :: _, 0 => rfl
  | x :: r, k + 1 => congrArg (f x :: ·) (er_map r k)
theorem q_makM {H : Hp} {Q : VK} (q : ∀ H' m dx wa ka, Ex H H' → H m = none → H wa = none → H ka = none → MemAt C H' m dx wa ka none [] → Q (.ref m) H') : makK C (sp_minit C) Q [] H := by
  intro h dx nh ndx ne
  have fr : ∀ x, upd (upd H dx (.own h)) h (.ins C dx []) x = none → H x = none := fun x hx => by
    by_cases z : x = h
    · rw [z]; exact nh
    · rw [upd_ne z] at hx
      by_cases z2 : x = dx
      · rw [z2]; exact ndx
      · rw [upd_ne z2] at hx
        exact hx
  refine ⟨h, dx, rfl, upd_same, fun H' wa ka hw hk k ma => ⟨rfl, ?_⟩⟩
  exact q H' h dx wa ka (fun b u hb => k.out _ _ (nin_c (ne_of_none hb nh) List.not_mem_nil) (by rw [upd_ne (ne_of_none hb nh), upd_ne (ne_of_none hb ndx)]; exact hb)) nh (fr _ hw) (fr _ hk) ma
theorem body_law {fd : FuncData} {fa : Addr} {F : Fun K "law" "law" s_law fa fd} (T : Glo mg) (G__law_state : Cal P w K mg base "_law_state" 1 p__law_state (sp_state K)) (G__law_draw : Cal P w K mg base "_law_draw" 1 p__law_draw sp_draw)
    (M_Memory : MakC P w K mg base "Memory" C 1 p_Memory___init__ (sp_minit C)) (W : MemK K C) (G_packets : Cal P w K mg base "packets" 1 p_packets sp_packets) (G__law_parts : Cal P w K mg base "_law_parts" 1 p__law_parts sp_parts)
    (G__law_wrong : Cal P w K mg base "_law_wrong" 3 p__law_wrong sp_wrong) (G__law_load : Cal P w K mg base "_law_load" 5 p__law_load (sp_lload C)) : FnOk P w K mg base CX0 6 fa fd ["_law_script"] (sp_law K) := by
  obtain ⟨hcM, n1, n2, n3, n4⟩ := W
  refine F.ok sc_law (fun vs H Q E h => ?_) (fun cdv A outer s H vs Q E hr h => ?_)
  · obtain ⟨_, _, rfl, _⟩ := h
    rfl
  obtain ⟨a, ns, rfl, hs, hl, q⟩ := h
  refine ⟨_, (pss_cons (ps_set (i := 1) sc_law.nd rfl (by first | exact Or.inl rfl | exact Or.inr rfl) (pe_cal G__law_state (hr.mono (by walk_at "lev")) rfl (pa_cons (pv 0) pa_nil))) (pss_cons (ps_setLc (i := 2) (own := [("_law_k", 9)]) (tt := tYes) rfl sc_law.nd rfl rfl (sw_true rfl rfl rfl (by decide +kernel)) (pi_range1 rfl T.n_range (pa_cons (pe_op op_addA pe_int (pe_cal G__law_draw (hr.mono (by walk_at "lev")) rfl (pa_cons (pv 1) (pa_cons pe_int pa_nil)))) pa_nil)) (blkOk_by (N := ["_law_script", "_law_state_here", "_law_image", "_law_target", "_law_memory", "_law_held", "_law_left", "_law_turn", "_law_size", "_law_k", "_law_part", "_law_first", "_law_words", "_law_total", "_law_due_here"]) (sc := defScope s_law) (by decide +kernel)) (fun _ _ _ _ _ => (pg_name (i := 9) sc_law.nd rfl (by first | exact Or.inl rfl | exact Or.inr rfl))) (fun _ _ _ _ _ => pts_nil) (fun _ _ _ _ _ => (pe_cal G__law_draw (hr.mono (by walk_at "lev")) rfl (pa_cons (pv 1) (pa_cons pe_int pa_nil))))) (pss_cons (ps_set (i := 3) sc_law.nd rfl (by first | exact Or.inl rfl | exact Or.inr rfl) (pe_cal G__law_draw (hr.mono (by walk_at "lev")) rfl (pa_cons (pv 1) (pa_cons pe_int pa_nil)))) (pss_cons (ps_if (pt_cmpR (op_neA (hu64 hr)) (pe_cal G_packets (hr.mono (by walk_at "lev")) rfl (pa_cons (pv 3) (pa_cons (pv 2) pa_nil))) (pe_lc (own := [("_law_part", 10)]) (tt := tYes) rfl sc_law.nd (pi_list (pe_cal G__law_parts (hr.mono (by walk_at "lev")) rfl (pa_cons (pv 2) pa_nil))) (blkOk_by (N := ["_law_script", "_law_state_here", "_law_image", "_law_target", "_law_memory", "_law_held", "_law_left", "_law_turn", "_law_size", "_law_k", "_law_part", "_law_first", "_law_words", "_law_total", "_law_due_here"]) (sc := defScope s_law) (by decide +kernel)) (fun _ _ _ _ _ => (pg_name (i := 10) sc_law.nd rfl (by first | exact Or.inl rfl | exact Or.inr rfl))) (fun _ _ _ _ _ => pts_nil) (fun _ _ _ _ _ => (pe_tup (pa_cons (pv 3) (pa_cons (pv 10) pa_nil))))) (nomark _)) (pss_one (ps_ret pe_bl)) pss_nil) (pss_cons (ps_set (i := 4) sc_law.nd rfl (by first | exact Or.inl rfl | exact Or.inr rfl) (pe_mkC0 M_Memory (hr.mono (by walk_at "lev")) rfl)) (pss_cons (ps_set (i := 5) sc_law.nd rfl (by first | exact Or.inl rfl | exact Or.inr rfl) (pe_lst pa_nil)) (pss_cons (ps_set (i := 6) sc_law.nd rfl (by first | exact Or.inl rfl | exact Or.inr rfl) (pe_cal G__law_parts (hr.mono (by walk_at "lev")) rfl (pa_cons (pv 2) pa_nil))) (pss_cons (ps_for PassesOwn.never rfl (pi_range1 rfl T.n_range (pa_cons (pe_callB call_lenA rfl T.n_len (by decide +kernel) (pa_cons (pv 6) pa_nil)) pa_nil)) (pg_name (i := 7) sc_law.nd rfl (by first | exact Or.inl rfl | exact Or.inr rfl)) (pss_cons (ps_set (i := 8) sc_law.nd rfl (by first | exact Or.inl rfl | exact Or.inr rfl) (pe_ifExp (pt_cmpR op_gt (pv 7) pe_int (nomark _)) (pe_callB call_lenA rfl T.n_len (by decide +kernel) (pa_cons (pv 5) pa_nil)) (pe_un un_neg pe_int))) (pss_cons (ps_for PassesOwn.never rfl (pi_range1 rfl T.n_range (pa_cons (pe_cal G__law_draw (hr.mono (by walk_at "lev")) rfl (pa_cons (pv 1) (pa_cons pe_int pa_nil))) pa_nil)) (pg_name (i := 9) sc_law.nd rfl (by first | exact Or.inl rfl | exact Or.inr rfl)) (pss_cons (ps_asg (pe_cal G__law_wrong (hr.mono (by walk_at "lev")) rfl (pa_cons (pv 1) (pa_cons (pv 2) (pa_cons (pv 5) (pa_cons (pv 8) pa_nil))))) (pg_tup rfl (pgs_cons (pg_name (i := 11) sc_law.nd rfl (by first | exact Or.inl rfl | exact Or.inr rfl)) (pgs_cons (pg_name (i := 12) sc_law.nd rfl (by first | exact Or.inl rfl | exact Or.inr rfl)) (pgs_cons (pg_name (i := 13) sc_law.nd rfl (by first | exact Or.inl rfl | exact Or.inr rfl)) (pgs_cons (pg_name (i := 14) sc_law.nd rfl (by first | exact Or.inl rfl | exact Or.inr rfl)) pgs_nil)))))) (pss_one (ps_if (pt_cmpR (op_eqA (hu64 hr)) (pe_ix ix_seq (pv 14) pe_int (fun _ _ => rfl)) pe_str (nomark _)) (pss_one (ps_if (PW.pt (pw_or (pt_cmpR (op_neA (hu64 hr)) (pe_cal G__law_load (hr.mono (by walk_at "lev")) rfl (pa_cons (pv 4) (pa_cons (pv 11) (pa_cons (pe_callTy call_listA rfl T.n_list (by decide +kernel) (pa_cons (pv 12) pa_nil)) (pa_cons (pv 13) pa_nil))))) (pv 14) (nomark _)) (pw_or1 (pt_cmpR (op_neA (hu64 hr)) (pe_fld (pv 4) rfl) (pv 5) (nomark _))))) (pss_one (ps_ret pe_bl)) pss_nil)) pss_nil)))) (pss_cons (ps_set (i := 10) sc_law.nd rfl (by first | exact Or.inl rfl | exact Or.inr rfl) (pe_bm PySem.F.plainAttrs_list PySem.F.slot_list_pop PySem.F.type_list_pop mt_popAt (pv 6) (pa_cons (pe_cal G__law_draw (hr.mono (by walk_at "lev")) rfl (pa_cons (pv 1) (pa_cons (pe_callB call_lenA rfl T.n_len (by decide +kernel) (pa_cons (pv 6) pa_nil)) pa_nil))) pa_nil))) (pss_cons (ps_if (pt_cmpR (op_eqA (hu64 hr)) (pv 7) pe_int (nomark _)) (pss_one (ps_setLc (i := 5) (own := [("_law_k", 9)]) (tt := tYes) rfl sc_law.nd rfl rfl (sw_true rfl rfl rfl (by decide +kernel)) (pi_range1 rfl T.n_range (pa_cons (pe_callB call_lenA rfl T.n_len (by decide +kernel) (pa_cons (pv 2) pa_nil)) pa_nil)) (blkOk_by (N := ["_law_script", "_law_state_here", "_law_image", "_law_target", "_law_memory", "_law_held", "_law_left", "_law_turn", "_law_size", "_law_k", "_law_part", "_law_first", "_law_words", "_law_total", "_law_due_here"]) (sc := defScope s_law) (by decide +kernel)) (fun _ _ _ _ _ => (pg_name (i := 9) sc_law.nd rfl (by first | exact Or.inl rfl | exact Or.inr rfl))) (fun _ _ _ _ _ => pts_nil) (fun _ _ _ _ _ => pe_non))) pss_nil) (pss_cons (ps_set (i := 5) sc_law.nd rfl (by first | exact Or.inl rfl | exact Or.inr rfl) (pe_op op_addA (pe_op op_addA (pe_slice sl_any (pv 5) po_none (po_some (pe_ix ix_seq (pv 10) pe_int (fun _ _ => rfl)))) (pe_ix ix_seq (pv 10) pe_int (fun _ _ => rfl))) (pe_slice sl_any (pv 5) (po_some (pe_op op_addA (pe_ix ix_seq (pv 10) pe_int (fun _ _ => rfl)) (pe_callB call_lenA rfl T.n_len (by decide +kernel) (pa_cons (pe_ix ix_seq (pv 10) pe_int (fun _ _ => rfl)) pa_nil)))) po_none))) (pss_one (ps_if (PW.pt (pw_or (pt_cmpR (op_neA (hu64 hr)) (pe_cal G__law_load (hr.mono (by walk_at "lev")) rfl (pa_cons (pv 4) (pa_cons (pe_ix ix_seq (pv 10) pe_int (fun _ _ => rfl)) (pa_cons (pe_callTy call_listA rfl T.n_list (by decide +kernel) (pa_cons (pe_ix ix_seq (pv 10) pe_int (fun _ _ => rfl)) pa_nil)) (pa_cons (pe_ix ix_seq (pv 10) pe_int (fun _ _ => rfl)) pa_nil))))) (pe_tup (pa_cons pe_str (pa_cons (pe_cmpR op_notIn_seq pe_non (pv 5) (by rfl)) pa_nil))) (nomark _)) (pw_or1 (pt_cmpR (op_neA (hu64 hr)) (pe_fld (pv 4) rfl) (pv 5) (nomark _))))) (pss_one (ps_ret pe_bl)) pss_nil)))))))) (pss_one (ps_ret (pe_cmpR (op_eqA (hu64 hr)) (pe_fld (pv 4) rfl) (pv 2) (nomark _)))))))))))), ?_⟩
  try dsimp only [cxOf, Cx.nox]
  repeat' walk_at "st"
  refine c_state hs hl ?_
  intro st c H1 e1 hst hc so
  repeat' walk_at "st"
  obtain ⟨H2, rfl⟩ : ∃ x, x = Hn := ⟨_, rfl⟩
  intro IM hIM
  have nIM : IM ∉ [st, c] := st_fresh so hIM
  refine lc_range (lo := 0) (n := (1 + dn).toNat) (fun i H' => ∃ im : List Int, im.length = i ∧ Kp [st, c] H2 H' ∧ StOk st c H' ∧ H' IM = some (.lst (im.map V.int))) ?_ ?_ ?_
  · exact ⟨[], rfl, (Ex.mk hIM rfl).kp, st_ex (Ex.mk hIM rfl) so, upd_same⟩
  · rintro i H3 hi ⟨im, lm, k3, so3, h3⟩
    have hi' : i < 61 := by omega
    refine ⟨rfl, ?_⟩
    repeat' walk_at "st"
    have h4 : Hn IM = some (.lst (im.map V.int)) := by walk_at "lift"
    refine ⟨_, h4, sl1000' (by rw [List.length_map]; omega), ?_⟩
    generalize hq : upd Hn IM _ = H9
    have k9 := kp_upd h4 hq
    have h9 := at_new hq
    refine ⟨im ++ [dn], by simp [lm], by walk_at "kpx", by walk_at "st_ok", ?_⟩
    rw [h9, List.map_append]
    rfl
  rintro H3 ⟨im, lm, k3, so3, h3⟩
  have zi : 1 ≤ im.length ∧ im.length ≤ 60 := by omega
  have lnp : 1 ≤ np im ∧ np im ≤ 8 := by unfold np; omega
  clear k3
  repeat' walk_at "st"
  obtain ⟨H4, rfl⟩ : ∃ x, x = Hn := ⟨_, rfl⟩
  obtain ⟨t, rfl⟩ : ∃ x, x = dn := ⟨_, rfl⟩
  have hIM4 : H4 IM = some (.lst (im.map V.int)) := by walk_at "lift"
  have mo0 : ∀ H, Mo [] H := fun H x hx => absurd hx List.not_mem_nil
  refine c_packets [] hIM4 zi.2 (mo0 _) (fun H5 p5 vs5 e5 np5 hp5 d5 => ?_)
  repeat' walk_at "st"
  refine c_parts [] (e5 _ _ hIM4) (by omega) (mo0 _) (fun H6 p6 vs6 e6 np6 hp6 d6 => ?_)
  have lv6 := dpms_len d6
  unfold prts at lv6
  rw [List.length_map, List.length_range] at lv6
  repeat' walk_at "st"
  intro D hD
  have d6' := dpms_add hD (dpms_sub (N := []) (fun x hx => absurd hx List.not_mem_nil) d6)
  refine lc_list (xs := vs6) (fun i H' => Ex H6 H' ∧ ∃ ws, H' D = some (.lst ws) ∧ DpMs [D] H' ws ((List.range i).map (pktD t im))) ?_ ?_ ?_ ?_
  · exact ⟨Ex.mk hD rfl, [], upd_same, .nil⟩
  · rintro i H' _ ⟨e7, _⟩
    exact sql (e7 _ _ hp6)
  · rintro i x H7 hx ⟨e7, ws, hD7, dws⟩
    have li := (List.getElem?_eq_some_iff.mp hx).1
    obtain ⟨dd, hdd, dx⟩ := dpms_at d6' hx
    unfold prts at hdd
    rw [List.getElem?_map, List.getElem?_range (by omega)] at hdd
    cases hdd
    have lw := dpms_len dws
    rw [List.length_map, List.length_range] at lw
    refine ⟨rfl, ?_⟩
    repeat' walk_at "st"
    have hD8 := ke _ _ hD7
    refine ⟨ws, hD8, sl1000' (by omega), ?_⟩
    generalize hq : upd Hn D _ = H9
    have k9 := kp_upd hD8 hq
    have h9 := at_new hq
    have hp0 : H6 D = none := hD
    refine ⟨by walk_at "exx", _, h9, ?_⟩
    rw [pkts_snoc]
    exact dpms_kp k9 (fun _ z => z) (dpms_app (dpms_ex ke dws) (dpms_one (.tup hn (.cons (.int _) (.cons (dpm_ex (e7.trans ke) dx) .nil)))))
  rintro H7 ⟨e7, ws, hD7, dws⟩
  rw [lv6] at dws
  repeat' walk_at "st"
  refine fq_neDat (.lst (sql (e7 _ _ (e6 _ _ hp5))) (dpms_dp (dpms_ex (e6.trans e7) d5))) (.lst (sql hD7) (dpms_dp dws)) pkt_lay pkt_depth ?_
  repeat' walk_at "st"
  refine q_makM (fun H8 ME dxm wa0 ka0 e8 nme nwa nka ma8 => ?_)
  repeat' walk_at "st"
  obtain ⟨hA0, rfl⟩ : ∃ x, x = p := ⟨_, rfl⟩
  obtain ⟨H9, rfl⟩ : ∃ x, x = Hn := ⟨_, rfl⟩
  have e49 : Ex H4 H9 := e5.trans (e6.trans (e7.trans (e8.trans ke)))
  have e79 : Ex H7 H9 := e8.trans ke
  have so9 := st_ex e49 so
  have so7 : StOk st c H7 := st_ex (e5.trans (e6.trans e7)) so
  have nME : ME ∉ [st, c] := st_fresh so7 nme
  have nwa0 : wa0 ∉ [st, c] := st_fresh so7 nwa
  have nka0 : ka0 ∉ [st, c] := st_fresh so7 nka
  have nhA0 : hA0 ∉ [st, c] := st_fresh (st_ex e8 so7) hp
  have ma9 := ma8.exx ke
  have hIM9 := e49 _ _ hIM4
  have nIk : IM ≠ ka0 := ne_of_none ((e5.trans (e6.trans e7)) _ _ hIM4) nka
  have nhk : hA0 ≠ ka0 := (ne_of_none ma8.ks hp).symm
  have mo9 : Mo [ka0, st, c] H9 := fun x hx => by
    rcases List.mem_cons.mp hx with rfl | hx
    · exact fsome ma9.ks
    · obtain ⟨⟨us, z, g1, g2, _⟩, _⟩ := so9
      simp only [List.mem_cons, List.not_mem_nil, or_false] at hx
      rcases hx with rfl | rfl
      · exact fsome g1
      · exact fsome g2
  refine c_parts [ka0, st, c] hIM9 (by omega) mo9 (fun H10 LF lv0 e10 nLF hLF d10 => ?_)
  have nL : LF ∉ [st, c] := st_fresh so9 nLF
  have nLm : ME ≠ LF := ne_of_none ma9.ob nLF
  have nLw : wa0 ≠ LF := ne_of_none ma9.ws nLF
  have nLk : ka0 ≠ LF := ne_of_none ma9.ks nLF
  have nLI : IM ≠ LF := ne_of_none hIM9 nLF
  have nLh : hA0 ≠ LF := ne_of_none hn nLF
  have llv := dpms_len d10
  unfold prts at llv
  rw [List.length_map, List.length_range] at llv
  have so10 := st_ex e10 so9
  repeat' walk_at "st"
  have ma10 := ma9.exx e10
  have sub5 : ∀ {k : Addr}, ∀ x, x ∈ [st, c] → x ∈ [ME, LF, k, st, c] := fun x hx => by
    simp only [List.mem_cons, List.not_mem_nil, or_false] at hx ⊢
    rcases hx with h | h <;> simp [h]
  refine w_rng (lo := 0) (n := _) (fun i σ H' => ∃ (rs : List Nat) (lvs : List V) (hA wa ka : Addr) (y7 y8 y9 y10 y11 y12 y13 y14 : Option V), σ = [some (.ref a), some (.ref st), some (.ref IM), some (.int t), some (.ref ME), some (.ref hA), some (.ref LF), y7, y8, y9, y10, y11, y12, y13, y14] ∧
    StOk st c H' ∧ H' IM = some (.lst (im.map V.int)) ∧ H' LF = some (.lst lvs) ∧ DpMs [ME, LF, ka, st, c] H' lvs (rs.map (prtD im)) ∧ rs.length + i = np im ∧ rs.Nodup ∧ (∀ r ∈ rs, r < np im) ∧ (i = 0 → rs = List.range (np im)) ∧
    MemAt C H' ME dxm wa ka (szi im i) (hwi im i rs) ∧ H' hA = some (.lst ((hwi im i rs).map oV)) ∧ wa ∉ [st, c] ∧ wa ≠ LF ∧ ka ∉ [st, c] ∧ ka ≠ LF ∧ hA ∉ [ME, LF, ka, st, c] ∧ IM ∉ [ME, LF, ka, st, c]) ?_ ?_ ?_
  · refine ⟨List.range (np im), lv0, hA0, wa0, ka0, _, _, _, _, _, _, _, _, rfl, so10, e10 _ _ hIM9, hLF, dpms_obj ma10.ob (by intro _ z; cases z) d10, ?_, List.nodup_range, fun r hr => List.mem_range.mp hr, fun _ => rfl, ma10, e10 _ _ hn, nwa0, nLw, nka0, nLk, ?_, ?_⟩
    · rw [List.length_range]; rfl
    · exact nin_c (ne_knd hn ma9.ob (by intro z; cases z)) (nin_c nLh (nin_c nhk nhA0))
    · exact nin_c (ne_knd hIM9 ma9.ob (by intro z; cases z)) (nin_c nLI (nin_c nIk nIM))
  · rintro i σ G0 hi ⟨rs, lvs, hA, wa, ka, y7, y8, y9, y10, y11, y12, y13, y14, rfl, sg0, gIM, gLF, gd, lrs, nd, hrs, hr0, gma, ghA, nwa, nwL, nka, nkL, nhA, nIM5⟩
    rw [llv, Int.toNat_natCast] at hi
    have nhs : hA ∉ [st, c] := fun z => nhA (sub5 _ z)
    have nIs : IM ∉ [st, c] := fun z => nIM5 (sub5 _ z)
    have gob := gma.ob
    simp only [mfl] at gob
    refine r_gname ?_
    refine r_seq ?_
    refine r_asg ?_
    refine ifk (v := .int (szV (szi im i))) (fun Q' hq => ?_) ?_
    · by_cases c0 : i = 0
      · subst c0
        repeat' walk_at "st"
        exact hq
      · have lh := szi_len (im := im) (i := i) (rs := rs) (by unfold szi; rw [if_neg c0])
        have es : szV (szi im i) = ((im.length : Nat) : Int) := by unfold szi; rw [if_neg c0]; rfl
        rw [es] at hq
        repeat' walk_at "st"
        rw [List.length_map, lh]
        exact hq
    repeat' walk_at "st"
    obtain ⟨G1, rfl⟩ : ∃ x, x = Hn := ⟨_, rfl⟩
    have kg : Kp [st, c] G0 G1 := ke
    refine w_rng (lo := 0) (n := _) (fun i2 σ H' => ∃ (y9 y10 y11 y12 y13 y14 : Option V), σ = [some (.ref a), some (.ref st), some (.ref IM), some (.int t), some (.ref ME), some (.ref hA), some (.ref LF), some (.int (0 + (i : Int))), some (.int (szV (szi im i))), y9, y10, y11, y12, y13, y14] ∧ StOk st c H' ∧ Kp [st, c] G0 H') ?_ ?_ ?_
    · exact ⟨_, _, _, _, _, _, rfl, so, kg⟩
    · rintro i2 σ G2 hi2 ⟨y9, y10, y11, y12, y13, y14, rfl, sg2, k02⟩
      have nMEs : ME ∉ [st, c] := nME
      have ma2 := gma.kp k02 nMEs nwa nka
      have hA2 := k02.out _ _ nhs ghA
      have IM2 := k02.out _ _ nIs gIM
      have LF2 := k02.out _ _ nL gLF
      have mo2 : Mo [ME, LF, ka, st, c] G2 := fun x hx => by
        obtain ⟨⟨us, z, g1, g2, _⟩, _⟩ := sg2
        simp only [List.mem_cons, List.not_mem_nil, or_false] at hx
        rcases hx with rfl | rfl | rfl | rfl | rfl
        · exact fsome ma2.ob
        · exact fsome LF2
        · exact fsome ma2.ks
        · exact fsome g1
        · exact fsome g2
      repeat' walk_at "st"
      refine c_wrong (im := im) (size := szi im i) (held := hwi im i rs) [ME, LF, ka, st, c] sg2 IM2 zi.1 zi.2 hA2 (fun n hn => szi_len hn) nIs nhs mo2 (by simp) (by simp) (fun G3 p3 la td f total ws k3 sg3 nla hla lws lto htd hp3 => ?_)
      have ma3 := ma2.kp k3 nMEs nwa nka
      have ob3 := ma3.ob
      simp only [mfl] at ob3
      have k03 := k02.trans k3
      cases hb : bad (szi im i) (hwi im i rs) f ws.length total with
      | none =>
        rw [hb] at htd
        simp only [dueL] at htd
        clear k02 k3 ke
        repeat' walk_at "st"
        exact ⟨_, _, _, _, _, _, rfl, sg3, k03⟩
      | some e =>
        rw [hb] at htd
        simp only [dueL] at htd
        clear k02 k3 ke
        repeat' walk_at "st"
        have nbk : p ≠ ka := (ne_of_none ma3.ks hp).symm
        refine c_lload (ma3.exx ke) hn (by have := hwi_le (im := im) (i := i) (rs := rs); omega) (by omega) (by omega) nbk (fun b0 => by rw [hb] at b0; cases b0) (fun e' be G5 p5 e5 hp5 => ?_)
        rw [hb] at be
        cases be
        have td5 : G5 td = some (.tup [.str "error", .int (e : Nat)]) := e5 _ _ (ke _ _ htd)
        have e35 : Ex G3 G5 := ke.trans e5
        have ma5 := ma3.exx e35
        have ob5 := ma5.ob
        simp only [mfl] at ob5
        repeat' walk_at "st"
        refine q_neErr hp5 td5 ?_
        repeat' walk_at "st"
        refine q_neWd ma5.ws (e35 _ _ (k03.out _ _ nhs ghA)) ?_
        repeat' walk_at "st"
        exact ⟨_, _, _, _, _, _, rfl, st_ex e35 sg3, k03.trans e35.kp⟩
    · rintro σ G2 ⟨y9, y10, y11, y12, y13, y14, rfl, sg2, k02⟩
      have ma2 := gma.kp k02 nME nwa nka
      have hA2 := k02.out _ _ nhs ghA
      have IM2 := k02.out _ _ nIs gIM
      have LF2 := k02.out _ _ nL gLF
      have gd2 := dpms_kp k02 sub5 gd
      have ld := dpms_len gd2
      rw [List.length_map] at ld
      repeat' walk_at "st"
      obtain ⟨j, rfl⟩ := Int.eq_ofNat_of_zero_le n0
      have lj : j < lvs.length := by omega
      obtain ⟨v, hv⟩ : ∃ v, lvs[j]? = some v := ⟨_, List.getElem?_eq_getElem lj⟩
      obtain ⟨dd, hdd, dv2⟩ := dpms_at gd2 hv
      rw [List.getElem?_map] at hdd
      obtain ⟨r, hr, rfl⟩ := Option.map_eq_some_iff.mp hdd
      have mr : r ∈ rs := List.mem_of_getElem? hr
      have rn := hrs r mr
      have LF3 : Hn LF = some (.lst lvs) := by walk_at "lift"
      refine q_popN LF3 (by omega) hv (fun G4 k4 LF4 => ?_)
      have subL : ∀ x, x ∈ [LF] → x ∈ [ME, LF, ka, st, c] := fun x hx => by rw [List.mem_singleton.mp hx]; simp
      have gd4 := dpms_kp k4 subL (dpms_kp ke sub5 gd2)
      have dv4 := dpm_kp k4 subL (dpm_kp ke sub5 dv2)
      have k24 : Kp [st, c, LF] G2 G4 := (ke.sub (fun x hx => by simp only [List.mem_cons, List.not_mem_nil, or_false] at hx ⊢; rcases hx with h | h <;> simp [h])).trans (k4.sub (fun x hx => by rw [List.mem_singleton.mp hx]; simp))
      have n3 : ∀ {x : Addr}, x ∉ [st, c] → x ≠ LF → x ∉ [st, c, LF] := fun h1 h2 z => by
        simp only [List.mem_cons, List.not_mem_nil, or_false] at z
        rcases z with z | z | z
        · exact h1 (by simp [z])
        · exact h1 (by simp [z])
        · exact h2 z
      have nhL : hA ≠ LF := fun z => nhA (by simp [z])
      have nIL : IM ≠ LF := fun z => nIM5 (by simp [z])
      have ma4 := ma2.kp k24 (n3 nME nLm) (n3 nwa nwL) (n3 nka nkL)
      have hA4 := k24.out _ _ (n3 nhs nhL) hA2
      have IM4 := k24.out _ _ (n3 nIs nIL) IM2
      have sg4 : StOk st c G4 := st_kpx k4 (alln_c nL alln_n) so
      obtain ⟨tp, xs, rfl, htp, dxs⟩ := dpm_tup dv4
      obtain ⟨v1, xs1, rfl, d1, dxs⟩ := dpms_cons dxs
      obtain ⟨v2, xs2, rfl, d2, dxs⟩ := dpms_cons dxs
      obtain ⟨v3, xs3, rfl, d3, dxs⟩ := dpms_cons dxs
      obtain ⟨v4, xs4, rfl, d4, dxs⟩ := dpms_cons dxs
      cases dpms_nil dxs
      cases dpm_str d1
      cases dpm_int d2
      cases dpm_int d4
      obtain ⟨la, ys, rfl, nla, hla, dys⟩ := dpm_lst d3
      cases dpms_intsV dys
      have lsl : (sl im r).length ≤ 8 := by unfold sl; rw [List.length_take]; omega
      have lsi : 8 * r + (sl im r).length ≤ im.length := by have := sl_len (im := im) (r := r); unfold np at rn; omega
      have mo4 : Mo [ME, LF, ka, st, c] G4 := fun x hx => by
        obtain ⟨⟨us, z, g1, g2, _⟩, _⟩ := sg4
        simp only [List.mem_cons, List.not_mem_nil, or_false] at hx
        rcases hx with rfl | rfl | rfl | rfl | rfl
        · exact fsome ma4.ob
        · exact fsome LF4
        · exact fsome ma4.ks
        · exact fsome g1
        · exact fsome g2
      clear ke k4 k24 k02
      refine r_gname ?_
      refine r_seq ?_
      refine ifsk (fun σ' H' => ∃ (hB : Addr) (z9 : Option V), σ' = [some (.ref a), some (.ref st), some (.ref IM), some (.int t), some (.ref ME), some (.ref hB), some (.ref LF), some (.int (0 + (i : Int))), some (.int (szV (szi im i))), z9, some (.ref tp), y11, y12, y13, y14] ∧ Ex G4 H' ∧ H' hB = some (.lst ((hd im rs).map oV)) ∧ hB ∉ [ME, LF, ka, st, c]) (fun nx' hnx => ?_) ?_
      · repeat' walk_at "st"
        · rename_i cc
          have er := hr0 (by omega)
          intro L2 hL2
          refine lc_range (lo := 0) (n := _) (fun i2 H' => Ex G4 H' ∧ H' L2 = some (.lst (List.replicate i2 V.non))) ?_ ?_ ?_
          · exact ⟨Ex.mk hL2 rfl, upd_same⟩
          · rintro i2 H' hi2 ⟨e2, h2⟩
            rw [List.length_map, Int.toNat_natCast] at hi2
            refine ⟨rfl, ?_⟩
            repeat' walk_at "st"
            refine ⟨_, h2, sl1000' (by rw [List.length_replicate]; omega), ?_⟩
            generalize hq : upd H' L2 _ = H9
            have k9 := kp_upd h2 hq
            have h9 := at_new hq
            refine ⟨by walk_at "exx", ?_⟩
            rw [h9, List.replicate_succ']
          · rintro H' ⟨e2, h2⟩
            rw [List.length_map, Int.toNat_natCast] at h2
            repeat' walk_at "st"
            refine hnx _ _ ⟨L2, _, rfl, e2, ?_, mo4.new hL2⟩
            rw [h2, er, hd_all, List.map_replicate]
            rfl
        · rename_i cc
          have c0 : i ≠ 0 := fun z => cc (by omega)
          refine hnx _ _ ⟨hA, _, rfl, Ex.refl _, ?_, nhA⟩
          rw [hA4]
          unfold hwi
          rw [if_neg c0]
      rintro σ' G5 ⟨hB, z9, rfl, e5, hB5, nhB⟩
      have htp5 := e5 _ _ htp
      have hla5 := e5 _ _ hla
      have eB : ((8 * r : Nat) : Int) + ((sl im r).map V.int).length = ((8 * r + (sl im r).length : Nat) : Int) := by rw [List.length_map]; omega
      repeat' walk_at "st"
      refine q_cutN hB5 (cut_toN _ _) (fun p1 G6 hp1 e6 h6 => ?_)
      have htp6 := e6 _ _ htp5
      have hla6 := e6 _ _ hla5
      have hB6 := e6 _ _ hB5
      repeat' walk_at "st"
      refine q_cutN (ke _ _ hB6) (by rw [eB, cut_fromN]) (fun p2 G7 hp2 e7 h7 => ?_)
      have zh : (hd im rs).length = im.length := hd_len
      repeat' walk_at "st"
      refine q_catN (e7 _ _ hn) h7 (by rw [List.length_append, List.length_take, List.length_map, List.length_map, List.length_drop, List.length_map]; omega) (fun HN G8 hHN e8 hcat => ?_)
      have hput : G8 HN = some (.lst ((hd im (rs.eraseIdx j)).map oV)) := by
        rw [hcat, ← hd_put nd hr rn]
        unfold put
        rw [List.map_append, List.map_append, ov_some, List.map_take, List.map_drop]
      have e68 : Ex G6 G8 := ke.trans (e7.trans e8)
      have e47 : Ex G4 G7 := e5.trans (e6.trans (ke.trans e7))
      have e48 : Ex G4 G8 := e47.trans e8
      have nHN : HN ∉ [ME, LF, ka, st, c] := (mo_ex e47 mo4).new hHN
      have htp8 := e48 _ _ htp
      have hla8 := e48 _ _ hla
      have ma8' := ma4.exx e48
      have nHk : HN ≠ ka := fun z => nHN (by simp [z])
      have sg8 := st_ex e48 sg4
      have gd8 := dpms_erase j (dpms_ex e48 gd4)
      have LF8 := e48 _ _ LF4
      have IM8 := e48 _ _ IM4
      have mo8 := mo_ex e48 mo4
      clear ke
      repeat' walk_at "st"
      have nbk : p ≠ ka := (ne_of_none ma8'.ks hp).symm
      refine c_lload (f := 8 * r) (total := im.length) (ma8'.exx ke) hn (by have := hwi_le (im := im) (i := i) (rs := rs); omega) (by omega) (by omega) nbk (fun b0 G9 wa' ka' p9 k9 nwa' nka' ma9' hp9 => ?_) (fun e be => absurd (be.symm.trans (ok_bad mr rn)) (by intro z; cases z))
      obtain ⟨G8b, rfl⟩ : ∃ x, x = Hn := ⟨_, rfl⟩
      rw [full_hd hr0, hd_put nd hr rn] at ma9' hp9
      have hp8 := hp
      have mo8b := mo_ex ke mo8
      have nwa9 : wa' ∉ [ME, LF, ka, st, c] := mo8b.new nwa'
      have nka9 : ka' = ka ∨ ka' ∉ [ME, LF, ka, st, c] := nka'.imp id fun z => mo8b.new z
      have nHk' : HN ≠ ka' := by
        rcases nka' with z | z
        · rw [z]; exact nHk
        · exact ne_of_none (ke _ _ hput) z
      have nIk' : IM ≠ ka' := by
        rcases nka' with z | z
        · rw [z]; exact fun y => nIM5 (by simp [y])
        · exact ne_of_none (ke _ _ IM8) z
      have hHN9 : G9 HN = some (.lst ((hd im (rs.eraseIdx j)).map oV)) := k9.out _ _ (nin_c (fun z => nHN (by simp [z])) (nin_c nHk List.not_mem_nil)) (ke _ _ hput)
      have ob9 := ma9'.ob
      simp only [mfl] at ob9
      repeat' walk_at "st"
      refine ⟨HN, _, rfl, .inl (sql hHN9), rfl, flat_wd _, ?_⟩
      rw [if_pos rfl, inv_cnt]
      show tNil _ _ _
      have ke8 := ke
      clear ke
      repeat' walk_at "st"
      refine q_neOk rfl (ke _ _ hp9) hn ?_
      repeat' walk_at "st"
      have maf := ma9'.exx ke
      refine q_neWd maf.ws (ke _ _ hHN9) ?_
      repeat' walk_at "st"
      have lre := List.length_eraseIdx_of_lt (List.getElem?_eq_some_iff.mp hr).1
      have sube := List.eraseIdx_sublist rs j
      have ei : szi im (i + 1) = some im.length := by unfold szi; rw [if_neg (by omega)]
      have eh : hwi im (i + 1) (rs.eraseIdx j) = hd im (rs.eraseIdx j) := by unfold hwi; rw [if_neg (by omega)]
      have gd9 : DpMs [ME, LF, ka', st, c] Hn (lvs.eraseIdx j) ((rs.eraseIdx j).map (prtD im)) := by
        refine dpms_ex ke ?_
        have g8 := dpms_ex ke8 gd8
        rw [er_map] at g8
        have sub9 : ∀ x, x ∈ [ME, ka] → x ∈ ka' :: [ME, LF, ka, st, c] := fun x hx => by
          simp only [List.mem_cons, List.not_mem_nil, or_false] at hx ⊢
          rcases hx with h | h <;> simp [h]
        have sub1 : ∀ x, x ∈ [ME, LF, ka', st, c] → x ∈ ka' :: [ME, LF, ka, st, c] := fun x hx => by
          simp only [List.mem_cons, List.not_mem_nil, or_false] at hx ⊢
          rcases hx with h | h | h | h | h <;> simp [h]
        rcases nka' with z | z
        · subst z
          exact dpms_kp k9 (fun x hx => by simp only [List.mem_cons, List.not_mem_nil, or_false] at hx ⊢; rcases hx with h | h <;> simp [h]) g8
        · exact dpms_sub sub1 (dpms_kp k9 sub9 (dpms_add z g8))
      have nME5 : ∀ {x : Addr}, x ∉ [ME, LF, ka, st, c] → x ≠ ka' → x ∉ [ME, LF, ka', st, c] := fun h1 h2 z => by
        simp only [List.mem_cons, List.not_mem_nil, or_false] at z h1
        rcases z with z | z | z | z | z
        · exact h1 (.inl z)
        · exact h1 (.inr (.inl z))
        · exact h2 z
        · exact h1 (.inr (.inr (.inr (.inl z))))
        · exact h1 (.inr (.inr (.inr (.inr z))))
      have nLM : LF ∉ [ME, ka] := nin_c nLm.symm (nin_c nkL.symm List.not_mem_nil)
      have sg9 : StOk st c Hn := st_ex ke (st_kpx k9 (alln_c nME (alln_c nka alln_n)) (st_ex ke8 sg8))
      refine ⟨rs.eraseIdx j, lvs.eraseIdx j, HN, wa', ka', _, _, _, _, _, _, _, _, rfl, sg9, ke _ _ (k9.out _ _ (fun z => nIM5 (by simp only [List.mem_cons, List.not_mem_nil, or_false] at z ⊢; rcases z with z | z <;> simp [z])) (ke8 _ _ IM8)), ke _ _ (k9.out _ _ nLM (ke8 _ _ LF8)), gd9, by omega, nd.sublist sube, fun x hx => hrs x (sube.subset hx), fun z => by omega, by rw [ei, eh]; exact maf, by rw [eh]; exact ke _ _ hHN9, fun z => nwa9 (sub5 _ z), fun z => nwa9 (by simp [z]), ?_, ?_, nME5 nHN nHk', nME5 nIM5 nIk'⟩
      · rcases nka9 with z | z
        · rw [z]; exact nka
        · exact fun y => z (sub5 _ y)
      · rcases nka9 with z | z
        · rw [z]; exact nkL
        · exact fun y => z (by simp [y])
  · rintro σ G0 ⟨rs, lvs, hA, wa, ka, y7, y8, y9, y10, y11, y12, y13, y14, rfl, sg0, gIM, gLF, gd, lrs, nd, hrs, hr0, gma, ghA, nwa, nwL, nka, nkL, nhA, nIM5⟩
    rw [llv, Int.toNat_natCast] at lrs gma ghA
    have er : rs = [] := List.eq_nil_of_length_eq_zero (by omega)
    subst er
    have gob := gma.ob
    have gws := gma.ws
    simp only [mfl] at gob
    have eh : hwi im (np im) [] = im.map some := by unfold hwi; rw [if_neg (by omega), hd_nil]
    rw [eh, ov_some] at gws
    repeat' walk_at "st"
    refine fq_eqInts gws gIM ?_
    exact q _
theorem ok_einit {x fl : Str} {C : Addr} (T : ErrC K mg x C fl) {q : Str} {st : Stmt} {N : List Str} (D : DnE K q C st N) (S : FnScope N N (defScope st)) (l2 : N.length = 2) (h0 : ∀ a b : V, start N [a, b] = [some a, some b])
    (hb : ∀ (f : Addr) (cdv : Value) (A : Around) (outer : List Env) (s : Shared) (H : Hp) (E : XK), PSs (cxOf CX0 P w K mg base N q (defScope st) f cdv A outer s H E).nox (defBody st) (tOst K fl (tVar 0) (tVar 1))) : MakE P w K mg base C 1 N (sp_einit C fl) := by
  refine D.ok S (fun vs H Q E h => ?_) (fun f cdv A outer s H vs Q E hr h => ?_)
  · obtain ⟨_, _, rfl, _⟩ := h
    rw [l2]
    rfl
  obtain ⟨a, v, rfl, ha, q⟩ := h
  refine ⟨_, hb f cdv A outer s H E, ?_⟩
  rw [h0]
  exact ⟨v, rfl, .ref a, rfl, a, C, rfl, T.ox, T.no, .inl ⟨ha, fun dx n ne => q dx n ne⟩⟩
theorem build_law {C_Memory CL CP : Addr} {fd : FuncData} {fa : Addr} (F : Fun K "law" "law" s_law fa fd) (T : Glo mg) (D_packets : Dn K mg "packets" s_packets p_packets) (D__law_state : Dn K mg "_law_state" s__law_state p__law_state) (D__law_draw : Dn K mg "_law_draw" s__law_draw p__law_draw) (D__law_pick : Dn K mg "_law_pick" s__law_pick p__law_pick) (D__law_parts : Dn K mg "_law_parts" s__law_parts p__law_parts) (D__law_load : Dn K mg "_law_load" s__law_load p__law_load) (D__law_due : Dn K mg "_law_due" s__law_due p__law_due) (D__law_wrong : Dn K mg "_law_wrong" s__law_wrong p__law_wrong) (D_Memory___init__ : DnI K mg "Memory" "Memory.__init__" C_Memory s_Memory___init__ p_Memory___init__) (D_Memory_load : DnM K C_Memory "load" "Memory.load" s_Memory_load p_Memory_load) (D_Memory_check : DnM K C_Memory "check" "Memory.check" s_Memory_check p_Memory_check) (W : MemK K C_Memory) (FA : Fam K mg CL CP) (E_L : DnE K "CodeError.__init__" CL s_CodeError___init__ p_CodeError___init__) : FnOk P w K mg base CX0 6 fa fd ["_law_script"] (sp_law K) := by
  have mL : MakE P w K mg base CL 1 p_CodeError___init__ (sp_einit CL "at") := ok_einit FA.l E_L sc_CodeError___init__ rfl (fun _ _ => rfl) (fun f cdv A outer s H E => (pss_one (ps_ost (pv 0) (pv 1))))
  have dr := ok_draw (P := P) (w := w) (base := base) T D__law_draw
  have pi := ok_pick T D__law_pick dr
  have mi := ok_minit (P := P) (w := w) (base := base) T W D_Memory___init__
  have ch := ok_mcheck T W D_Memory_check FA.l mL
  have lo := ok_load T W D_Memory_load ch
  have pa := ok_parts (P := P) (w := w) (base := base) T D__law_parts
  have pk := ok_packets (P := P) (w := w) (base := base) T D_packets
  have du := ok_due (P := P) (w := w) (base := base) T D__law_due
  have ll := ok_lload T D__law_load FA lo
  have wr := ok_wrong T D__law_wrong dr pi pa du
  exact body_law (F := F) T (ok_state T D__law_state) dr mi W pk pa wr ll
theorem dn_mk {h : Heap} {x : Str} {st : Stmt} {ps : List Str} {f : Addr} {oc : Value} {od an : Option Addr} {osl : Array (Option Value)} {kV doc pm cdv ct : Value} (X : K.In h) (G : h.Ns mainGlobals mg) (a : PySem.W.nsIn K mainGlobals x = some (some (.ref f)))
    (l : K.lookup f = some ⟨oc, od, .func (PySem.W.fnOf x x (defArgs st) (defBody st) (defScope st) .none kV doc pm an cdv ct), osl⟩) (c : PySem.W.codeIn K cdv x = true) (k : PySem.W.keepIn K (.ref f) = true)
    (hb : ∀ (kV doc pm : Value) (an : Option Addr) (cdv ct : Value) (us : List Value), us.length = ps.length → bindArgs (PySem.W.fnOf x x (defArgs st) (defBody st) (defScope st) .none kV doc pm an cdv ct) ⟨us, []⟩ = pure (ps.zip us)) : Dn K mg x st ps :=
  ⟨f, _, fun_mk l c k, PySem.W.mg_of X G a, (fun_mk l c k).binds hb⟩
theorem all_mk {l : PySem.W.OpenLaw} {w : World} {K : PySem.W.Frag} {h : Heap} {mg : Str → Option Value} {fa : Addr} (X : K.In h) (G : h.Ns mainGlobals mg) (hfa : mg "law" = some (.ref fa))
    {f0 : Addr} {od0 an0 : Option Addr} {sl0 : Array (Option Value)} {oc0 kV0 dc0 pm0 cd0 ct0 : Value}
    {f1 : Addr} {od1 an1 : Option Addr} {sl1 : Array (Option Value)} {oc1 kV1 dc1 pm1 cd1 ct1 : Value}
    {f2 : Addr} {od2 an2 : Option Addr} {sl2 : Array (Option Value)} {oc2 kV2 dc2 pm2 cd2 ct2 : Value}
    {f3 : Addr} {od3 an3 : Option Addr} {sl3 : Array (Option Value)} {oc3 kV3 dc3 pm3 cd3 ct3 : Value}
    {f4 : Addr} {od4 an4 : Option Addr} {sl4 : Array (Option Value)} {oc4 kV4 dc4 pm4 cd4 ct4 : Value}
    {f5 : Addr} {od5 an5 : Option Addr} {sl5 : Array (Option Value)} {oc5 kV5 dc5 pm5 cd5 ct5 : Value}
    {f6 : Addr} {od6 an6 : Option Addr} {sl6 : Array (Option Value)} {oc6 kV6 dc6 pm6 cd6 ct6 : Value}
    {f7 : Addr} {od7 an7 : Option Addr} {sl7 : Array (Option Value)} {oc7 kV7 dc7 pm7 cd7 ct7 : Value}
    {f8 : Addr} {od8 an8 : Option Addr} {sl8 : Array (Option Value)} {oc8 kV8 dc8 pm8 cd8 ct8 : Value}
    {C_Memory : Addr}
    {f_Memory___init__ : Addr} {od_Memory___init__ an_Memory___init__ : Option Addr} {sl_Memory___init__ : Array (Option Value)} {oc_Memory___init__ kV_Memory___init__ dc_Memory___init__ pm_Memory___init__ cd_Memory___init__ ct_Memory___init__ : Value}
    {f_Memory_load : Addr} {od_Memory_load an_Memory_load : Option Addr} {sl_Memory_load : Array (Option Value)} {oc_Memory_load kV_Memory_load dc_Memory_load pm_Memory_load cd_Memory_load ct_Memory_load : Value}
    {f_Memory_check : Addr} {od_Memory_check an_Memory_check : Option Addr} {sl_Memory_check : Array (Option Value)} {oc_Memory_check kV_Memory_check dc_Memory_check pm_Memory_check cd_Memory_check ct_Memory_check : Value}
    {C_PlacedError : Addr}
    {C_CodeError f_CodeError___init__ N_CodeError : Addr} {nm_CodeError q_CodeError : Str} {bs_CodeError bm_CodeError sub_CodeError : List Value} {sn_CodeError : List Str} {ab_CodeError : Bool} {col_CodeError : Option Bool} {dd_CodeError : Option Addr} {m0_CodeError m1_CodeError m2_CodeError m3_CodeError m5_CodeError : Option Value} {od_CodeError___init__ an_CodeError___init__ : Option Addr} {sl_CodeError___init__ : Array (Option Value)} {oc_CodeError___init__ kV_CodeError___init__ dc_CodeError___init__ pm_CodeError___init__ cd_CodeError___init__ ct_CodeError___init__ : Value}
    (a0 : PySem.W.nsIn K mainGlobals "packets" = some (some (.ref f0))) (l0 : K.lookup f0 = some ⟨oc0, od0, .func (PySem.W.fnOf "packets" "packets" (defArgs s_packets) (defBody s_packets) (defScope s_packets) .none kV0 dc0 pm0 an0 cd0 ct0), sl0⟩) (c0 : PySem.W.codeIn K cd0 "packets" = true) (k0 : PySem.W.keepIn K (.ref f0) = true)
    (a1 : PySem.W.nsIn K mainGlobals "_law_state" = some (some (.ref f1))) (l1 : K.lookup f1 = some ⟨oc1, od1, .func (PySem.W.fnOf "_law_state" "_law_state" (defArgs s__law_state) (defBody s__law_state) (defScope s__law_state) .none kV1 dc1 pm1 an1 cd1 ct1), sl1⟩) (c1 : PySem.W.codeIn K cd1 "_law_state" = true) (k1 : PySem.W.keepIn K (.ref f1) = true)
    (a2 : PySem.W.nsIn K mainGlobals "_law_draw" = some (some (.ref f2))) (l2 : K.lookup f2 = some ⟨oc2, od2, .func (PySem.W.fnOf "_law_draw" "_law_draw" (defArgs s__law_draw) (defBody s__law_draw) (defScope s__law_draw) .none kV2 dc2 pm2 an2 cd2 ct2), sl2⟩) (c2 : PySem.W.codeIn K cd2 "_law_draw" = true) (k2 : PySem.W.keepIn K (.ref f2) = true)
    (a3 : PySem.W.nsIn K mainGlobals "_law_pick" = some (some (.ref f3))) (l3 : K.lookup f3 = some ⟨oc3, od3, .func (PySem.W.fnOf "_law_pick" "_law_pick" (defArgs s__law_pick) (defBody s__law_pick) (defScope s__law_pick) .none kV3 dc3 pm3 an3 cd3 ct3), sl3⟩) (c3 : PySem.W.codeIn K cd3 "_law_pick" = true) (k3 : PySem.W.keepIn K (.ref f3) = true)
    (a4 : PySem.W.nsIn K mainGlobals "_law_parts" = some (some (.ref f4))) (l4 : K.lookup f4 = some ⟨oc4, od4, .func (PySem.W.fnOf "_law_parts" "_law_parts" (defArgs s__law_parts) (defBody s__law_parts) (defScope s__law_parts) .none kV4 dc4 pm4 an4 cd4 ct4), sl4⟩) (c4 : PySem.W.codeIn K cd4 "_law_parts" = true) (k4 : PySem.W.keepIn K (.ref f4) = true)
    (a5 : PySem.W.nsIn K mainGlobals "_law_load" = some (some (.ref f5))) (l5 : K.lookup f5 = some ⟨oc5, od5, .func (PySem.W.fnOf "_law_load" "_law_load" (defArgs s__law_load) (defBody s__law_load) (defScope s__law_load) .none kV5 dc5 pm5 an5 cd5 ct5), sl5⟩) (c5 : PySem.W.codeIn K cd5 "_law_load" = true) (k5 : PySem.W.keepIn K (.ref f5) = true)
    (a6 : PySem.W.nsIn K mainGlobals "_law_due" = some (some (.ref f6))) (l6 : K.lookup f6 = some ⟨oc6, od6, .func (PySem.W.fnOf "_law_due" "_law_due" (defArgs s__law_due) (defBody s__law_due) (defScope s__law_due) .none kV6 dc6 pm6 an6 cd6 ct6), sl6⟩) (c6 : PySem.W.codeIn K cd6 "_law_due" = true) (k6 : PySem.W.keepIn K (.ref f6) = true)
    (a7 : PySem.W.nsIn K mainGlobals "_law_wrong" = some (some (.ref f7))) (l7 : K.lookup f7 = some ⟨oc7, od7, .func (PySem.W.fnOf "_law_wrong" "_law_wrong" (defArgs s__law_wrong) (defBody s__law_wrong) (defScope s__law_wrong) .none kV7 dc7 pm7 an7 cd7 ct7), sl7⟩) (c7 : PySem.W.codeIn K cd7 "_law_wrong" = true) (k7 : PySem.W.keepIn K (.ref f7) = true)
    (a8 : PySem.W.nsIn K mainGlobals "law" = some (some (.ref f8))) (l8 : K.lookup f8 = some ⟨oc8, od8, .func (PySem.W.fnOf "law" "law" (defArgs s_law) (defBody s_law) (defScope s_law) .none kV8 dc8 pm8 an8 cd8 ct8), sl8⟩) (c8 : PySem.W.codeIn K cd8 "law" = true) (k8 : PySem.W.keepIn K (.ref f8) = true)
    (aC_Memory : PySem.W.nsIn K mainGlobals "Memory" = some (some (.ref C_Memory))) (pg_Memory : PySem.W.plainGet K C_Memory Str.empty = true) (hd_Memory : PySem.W.hasDictIn K C_Memory = true) (po_Memory : PySem.W.plainOver K C_Memory = true) (sa_Memory : PySem.W.findIn K (.ref C_Memory) "__setattr__" = some (some (.builtin "object.__setattr__"))) (mk_Memory : PySem.W.makesIn K C_Memory = true) (kc_Memory : PySem.W.keepIn K (.ref C_Memory) = true)
    (na_Memory_words : PySem.W.findIn K (.ref C_Memory) "words" = some none)
    (na_Memory_kept : PySem.W.findIn K (.ref C_Memory) "kept" = some none)
    (na_Memory_total : PySem.W.findIn K (.ref C_Memory) "total" = some none)
    (na_Memory_missing : PySem.W.findIn K (.ref C_Memory) "missing" = some none)
    (a_Memory___init__ : PySem.W.findIn K (.ref C_Memory) "__init__" = some (some (.ref f_Memory___init__))) (i_Memory___init__ : PySem.W.isFn K (.ref f_Memory___init__) = true) (l_Memory___init__ : K.lookup f_Memory___init__ = some ⟨oc_Memory___init__, od_Memory___init__, .func (PySem.W.fnOf "__init__" "Memory.__init__" (defArgs s_Memory___init__) (defBody s_Memory___init__) (defScope s_Memory___init__) .none kV_Memory___init__ dc_Memory___init__ pm_Memory___init__ an_Memory___init__ cd_Memory___init__ ct_Memory___init__), sl_Memory___init__⟩) (c_Memory___init__ : PySem.W.codeIn K cd_Memory___init__ "Memory.__init__" = true) (k_Memory___init__ : PySem.W.keepIn K (.ref f_Memory___init__) = true)
    (a_Memory_load : PySem.W.findIn K (.ref C_Memory) "load" = some (some (.ref f_Memory_load))) (i_Memory_load : PySem.W.isFn K (.ref f_Memory_load) = true) (l_Memory_load : K.lookup f_Memory_load = some ⟨oc_Memory_load, od_Memory_load, .func (PySem.W.fnOf "load" "Memory.load" (defArgs s_Memory_load) (defBody s_Memory_load) (defScope s_Memory_load) .none kV_Memory_load dc_Memory_load pm_Memory_load an_Memory_load cd_Memory_load ct_Memory_load), sl_Memory_load⟩) (c_Memory_load : PySem.W.codeIn K cd_Memory_load "Memory.load" = true) (k_Memory_load : PySem.W.keepIn K (.ref f_Memory_load) = true)
    (a_Memory_check : PySem.W.findIn K (.ref C_Memory) "check" = some (some (.ref f_Memory_check))) (i_Memory_check : PySem.W.isFn K (.ref f_Memory_check) = true) (l_Memory_check : K.lookup f_Memory_check = some ⟨oc_Memory_check, od_Memory_check, .func (PySem.W.fnOf "check" "Memory.check" (defArgs s_Memory_check) (defBody s_Memory_check) (defScope s_Memory_check) .none kV_Memory_check dc_Memory_check pm_Memory_check an_Memory_check cd_Memory_check ct_Memory_check), sl_Memory_check⟩) (c_Memory_check : PySem.W.codeIn K cd_Memory_check "Memory.check" = true) (k_Memory_check : PySem.W.keepIn K (.ref f_Memory_check) = true)
    (aC_PlacedError : PySem.W.nsIn K mainGlobals "PlacedError" = some (some (.ref C_PlacedError))) (eC_PlacedError : PySem.W.subIn K (.ref C_PlacedError) (.type "BaseException") = some true) (iC_PlacedError : PySem.W.isClsIn K C_PlacedError = true) (tC_PlacedError : PySem.W.typeIn K (.ref C_PlacedError) = some (.type "type")) (gnX : PySem.W.specialIn K (.builtin "object.__class__") "__get__" = some (some (.builtin "getset_descriptor.__get__"))) (tkX : PySem.W.takesIn K (.builtin "object.__class__") = some true)
    (aC_CodeError : PySem.W.nsIn K mainGlobals "CodeError" = some (some (.ref C_CodeError))) (xL_CodeError : K.lookup C_CodeError = some (excClassObj nm_CodeError q_CodeError C_CodeError N_CodeError bs_CodeError bm_CodeError true sn_CodeError sub_CodeError ab_CodeError col_CodeError dd_CodeError m0_CodeError m1_CodeError m2_CodeError m3_CodeError m5_CodeError "ValueError.__new__")) (rv_CodeError : PySem.HandSPX.refsVE bm_CodeError = true) (sa_CodeError : PySem.W.findIn K (.ref C_CodeError) "__setattr__" = some (some (.builtin "object.__setattr__"))) (ga_CodeError : PySem.W.findIn K (.ref C_CodeError) "__getattribute__" = some (some (.builtin "BaseException.__getattribute__"))) (gg_CodeError : PySem.W.findIn K (.ref C_CodeError) "__getattr__" = some none) (no_CodeError : PySem.W.findIn K (.ref C_CodeError) "at" = some none) (kC_CodeError : PySem.W.keepIn K (.ref C_CodeError) = true) (eC_CodeError : PySem.W.subIn K (.ref C_CodeError) (.type "BaseException") = some true) (tC_CodeError : PySem.W.typeIn K (.ref C_CodeError) = some (.type "type")) (hC_CodeError : PySem.W.hasDictIn K C_CodeError = true) (cl_CodeError : (PySem.W.clsIn K C_CodeError).isSome = true) (ca_CodeError : PySem.W.findIn K (.ref C_CodeError) "__class__" = some (some (.builtin "object.__class__"))) (mo_CodeError : PySem.W.mroIn K C_CodeError (.type "object") = some true) (ii_CodeError : PySem.W.findIn K (.ref C_CodeError) "__init__" = some (some (.ref f_CodeError___init__))) (ti_CodeError : PySem.W.typeIn K (.ref f_CodeError___init__) = some (.type "function")) (li_CodeError : K.lookup f_CodeError___init__ = some ⟨oc_CodeError___init__, od_CodeError___init__, .func (PySem.W.fnOf "__init__" "CodeError.__init__" (defArgs s_CodeError___init__) (defBody s_CodeError___init__) (defScope s_CodeError___init__) .none kV_CodeError___init__ dc_CodeError___init__ pm_CodeError___init__ an_CodeError___init__ cd_CodeError___init__ ct_CodeError___init__), sl_CodeError___init__⟩) (ci_CodeError : PySem.W.codeIn K cd_CodeError___init__ "CodeError.__init__" = true) (ki_CodeError : PySem.W.keepIn K (.ref f_CodeError___init__) = true) (kv_CodeError : PySem.W.kitOne K (.ref C_CodeError) (.type "ValueError") = some true) (kp_CodeError : PySem.W.kitOne K (.ref C_CodeError) (.ref C_PlacedError) = some true) (sP_CodeError : PySem.W.subIn K (.ref C_CodeError) (.ref C_PlacedError) = some true)
    (k00X : PySem.W.kitOne K (.ref C_CodeError) (.ref C_CodeError) = some true)
    (sS_CodeError : PySem.W.subIn K (.ref C_CodeError) (.ref C_CodeError) = some true)
    (z_n_len : PySem.W.nsIn K mainGlobals "len" = some none) (z_n_int : PySem.W.nsIn K mainGlobals "int" = some none) (z_n_abs : PySem.W.nsIn K mainGlobals "abs" = some none) (z_n_range : PySem.W.nsIn K mainGlobals "range" = some none) (z_n_list : PySem.W.nsIn K mainGlobals "list" = some none) (z_n_enumerate : PySem.W.nsIn K mainGlobals "enumerate" = some none) (z_n_isinstance : PySem.W.nsIn K mainGlobals "isinstance" = some none) {t_c_LONGEST_PART : PySem.Tok} (z_c_LONGEST_PART : PySem.W.nsIn K mainGlobals "LONGEST_PART" = some (some (.int 8 t_c_LONGEST_PART))) :
    ∃ fd : FuncData, (∀ (s : Shared) (v : Value), BindsTo s fd ⟨[v], []⟩ [("_law_script", v)]) ∧ ∀ base : Heap, K.In base → base.Ns mainGlobals mg → FnOk l.prog w K mg base CX0 6 fa fd ["_law_script"] (sp_law K) := by
  have e := hfa.symm.trans (PySem.W.mg_of X G a8)
  cases e
  have FL := fun_mk (st := s_law) l8 c8 k8
  have D_packets : Dn K mg "packets" s_packets p_packets := dn_mk X G a0 l0 c0 k0 (fun _ _ _ _ _ _ us hl => match us, hl with | [_, _], _ => rfl)
  have D__law_state : Dn K mg "_law_state" s__law_state p__law_state := dn_mk X G a1 l1 c1 k1 (fun _ _ _ _ _ _ us hl => match us, hl with | [_], _ => rfl)
  have D__law_draw : Dn K mg "_law_draw" s__law_draw p__law_draw := dn_mk X G a2 l2 c2 k2 (fun _ _ _ _ _ _ us hl => match us, hl with | [_, _], _ => rfl)
  have D__law_pick : Dn K mg "_law_pick" s__law_pick p__law_pick := dn_mk X G a3 l3 c3 k3 (fun _ _ _ _ _ _ us hl => match us, hl with | [_, _], _ => rfl)
  have D__law_parts : Dn K mg "_law_parts" s__law_parts p__law_parts := dn_mk X G a4 l4 c4 k4 (fun _ _ _ _ _ _ us hl => match us, hl with | [_], _ => rfl)
  have D__law_load : Dn K mg "_law_load" s__law_load p__law_load := dn_mk X G a5 l5 c5 k5 (fun _ _ _ _ _ _ us hl => match us, hl with | [_, _, _, _], _ => rfl)
  have D__law_due : Dn K mg "_law_due" s__law_due p__law_due := dn_mk X G a6 l6 c6 k6 (fun _ _ _ _ _ _ us hl => match us, hl with | [_, _, _, _, _], _ => rfl)
  have D__law_wrong : Dn K mg "_law_wrong" s__law_wrong p__law_wrong := dn_mk X G a7 l7 c7 k7 (fun _ _ _ _ _ _ us hl => match us, hl with | [_, _, _, _], _ => rfl)
  have CL_Memory : Cls K C_Memory := ⟨pg_Memory, hd_Memory, po_Memory, sa_Memory⟩
  have F_Memory___init__ := fun_mk (st := s_Memory___init__) l_Memory___init__ c_Memory___init__ k_Memory___init__
  have b_Memory___init__ := F_Memory___init__.binds (ps := p_Memory___init__) fun _ _ _ _ _ _ us hl => match us, hl with | [_], _ => rfl
  have D_Memory___init__ : DnI K mg "Memory" "Memory.__init__" C_Memory s_Memory___init__ p_Memory___init__ := ⟨_, _, ⟨mk_Memory, a_Memory___init__, i_Memory___init__, kc_Memory⟩, F_Memory___init__, PySem.W.mg_of X G aC_Memory, b_Memory___init__⟩
  have F_Memory_load := fun_mk (st := s_Memory_load) l_Memory_load c_Memory_load k_Memory_load
  have b_Memory_load := F_Memory_load.binds (ps := p_Memory_load) fun _ _ _ _ _ _ us hl => match us, hl with | [_, _, _, _], _ => rfl
  have D_Memory_load : DnM K C_Memory "load" "Memory.load" s_Memory_load p_Memory_load := ⟨_, _, CL_Memory, ⟨a_Memory_load, i_Memory_load, k_Memory_load⟩, F_Memory_load, b_Memory_load⟩
  have F_Memory_check := fun_mk (st := s_Memory_check) l_Memory_check c_Memory_check k_Memory_check
  have b_Memory_check := F_Memory_check.binds (ps := p_Memory_check) fun _ _ _ _ _ _ us hl => match us, hl with | [_, _, _, _], _ => rfl
  have D_Memory_check : DnM K C_Memory "check" "Memory.check" s_Memory_check p_Memory_check := ⟨_, _, CL_Memory, ⟨a_Memory_check, i_Memory_check, k_Memory_check⟩, F_Memory_check, b_Memory_check⟩
  have X_Memory := (⟨CL_Memory, na_Memory_words, na_Memory_kept, na_Memory_total, na_Memory_missing⟩ : MemK K C_Memory)
  have T_CodeError : ErrC K mg "CodeError" C_CodeError "at" := ⟨PySem.W.mg_of X G aC_CodeError, ⟨⟨nm_CodeError, q_CodeError, N_CodeError, bs_CodeError, bm_CodeError, sn_CodeError, sub_CodeError, ab_CodeError, col_CodeError, dd_CodeError, m0_CodeError, m1_CodeError, m2_CodeError, m3_CodeError, m5_CodeError, xL_CodeError, rv_CodeError⟩, sa_CodeError, eC_CodeError, tC_CodeError, kC_CodeError⟩, ⟨ga_CodeError, gg_CodeError, eC_CodeError, hC_CodeError⟩, no_CodeError, cl_CodeError, ca_CodeError, gnX, tkX, mo_CodeError⟩
  have F_CodeError___init__ := fun_mk (st := s_CodeError___init__) li_CodeError ci_CodeError ki_CodeError
  have b_CodeError___init__ := F_CodeError___init__.binds (ps := p_CodeError___init__) fun _ _ _ _ _ _ us hl => match us, hl with | [_, _], _ => rfl
  have D_CodeError___init__ : DnE K "CodeError.__init__" C_CodeError s_CodeError___init__ p_CodeError___init__ := ⟨_, _, ii_CodeError, ti_CodeError, F_CodeError___init__, b_CodeError___init__⟩
  have FA : Fam K mg C_CodeError C_PlacedError := ⟨T_CodeError, PySem.W.mg_of X G aC_PlacedError, kp_CodeError, exm_own eC_CodeError cl_CodeError tC_CodeError sS_CodeError⟩
  have T : Glo mg := ⟨PySem.W.mg_none_of X G z_n_len, PySem.W.mg_none_of X G z_n_int, PySem.W.mg_none_of X G z_n_abs, PySem.W.mg_none_of X G z_n_range, PySem.W.mg_none_of X G z_n_list, PySem.W.mg_none_of X G z_n_enumerate, PySem.W.mg_none_of X G z_n_isinstance, ⟨_, PySem.W.mg_of X G z_c_LONGEST_PART⟩⟩
  refine ⟨PySem.W.fnOf "law" "law" (defArgs s_law) (defBody s_law) (defScope s_law) .none kV8 dc8 pm8 an8 cd8 ct8, fun s v => .of_eq rfl, fun base _ _ => ?_⟩
  exact build_law FL T D_packets D__law_state D__law_draw D__law_pick D__law_parts D__law_load D__law_due D__law_wrong D_Memory___init__ D_Memory_load D_Memory_check X_Memory FA D_CodeError___init__
theorem walk {l : PySem.W.OpenLaw} {q : Program} {loose : List Str} {XP : (Str → Option Value) → Heap → Prop} {YP : World → Heap → Prop} {d : DefRec} {K : Params → PySem.W.Frag} (hn : l.most = some 63) (hdf : d.params.defaults = [])
    (hY : ∀ (w : World) (h : Heap), YP w h → (K w.params).In h)
    (F : ∀ (w : World) (mg : Str → Option Value) (fa : Addr) (h : Heap), (K w.params).In h → h.Ns mainGlobals mg → mg d.name = some (.ref fa) →
      ∃ fd : FuncData, (∀ (s : Shared) (u : Value), BindsTo s fd ⟨[u], []⟩ [("_law_script", u)]) ∧ ∀ base : Heap, (K w.params).In base → base.Ns mainGlobals mg → FnOk l.prog w (K w.params) mg base CX0 6 fa fd ["_law_script"] (sp_law (K w.params))) :
    PySem.W.WalkO q loose XP YP l.row.toRowW d [] (fun f vs => PySem.call f vs) :=
  L2.walk_of (n := 63) (k := 6) (x := "_law_script") (CX := fun _ => CX0) (sp := fun w => sp_law (K w.params)) hn (by decide) hdf ⟨rfl, by decide, by decide⟩ hY F (fun _ _ a ns hl _ hS => ⟨a, ns, rfl, hS, hl, fun _ => rfl⟩) fun _ _ _ _ _ z => z
end Y
open PySem PySem.W PyProof.Rows
set_option maxRecDepth 100000 in
set_option maxHeartbeats 0 in
theorem PySem.Challenge.cw_placedanyhow_k44_parts_of_images_holds : PySem.Challenge.rw_placedanyhow_k44_parts_of_images.Holds := by
  w_on; o_law; k_head; (case hw => w_witness2)
  k_fill
  refine Y.walk (l := PySem.Challenge.rw_placedanyhow_k44_parts_of_images) rfl rfl (fun w h Y => PySem.W.kIn_of Y) ?F
  case F =>
    intro w mg fa h KX G hmg
    refine' Y.all_mk KX G hmg ?a0 ?l0 ?c0 ?k0 ?a1 ?l1 ?c1 ?k1 ?a2 ?l2 ?c2 ?k2 ?a3 ?l3 ?c3 ?k3 ?a4 ?l4 ?c4 ?k4 ?a5 ?l5 ?c5 ?k5 ?a6 ?l6 ?c6 ?k6 ?a7 ?l7 ?c7 ?k7 ?a8 ?l8 ?c8 ?k8 ?aC_Memory ?pg_Memory ?hd_Memory ?po_Memory ?sa_Memory ?mk_Memory ?kc_Memory ?na_Memory_words ?na_Memory_kept ?na_Memory_total ?na_Memory_missing ?a_Memory___init__ ?i_Memory___init__ ?l_Memory___init__ ?c_Memory___init__ ?k_Memory___init__ ?a_Memory_load ?i_Memory_load ?l_Memory_load ?c_Memory_load ?k_Memory_load ?a_Memory_check ?i_Memory_check ?l_Memory_check ?c_Memory_check ?k_Memory_check ?aC_PlacedError ?eC_PlacedError ?iC_PlacedError ?tC_PlacedError ?gnX ?tkX ?aC_CodeError ?xL_CodeError ?rv_CodeError ?sa_CodeError ?ga_CodeError ?gg_CodeError ?no_CodeError ?kC_CodeError ?eC_CodeError ?tC_CodeError ?hC_CodeError ?cl_CodeError ?ca_CodeError ?mo_CodeError ?ii_CodeError ?ti_CodeError ?li_CodeError ?ci_CodeError ?ki_CodeError ?kv_CodeError ?kp_CodeError ?sP_CodeError ?k00X ?sS_CodeError ?z_n_len ?z_n_int ?z_n_abs ?z_n_range ?z_n_list ?z_n_enumerate ?z_n_isinstance ?z_c_LONGEST_PART
    (case a0 => k_is); (case l0 => k_is); (case c0 => k_is); (case k0 => k_is)
    (case a1 => k_is); (case l1 => k_is); (case c1 => k_is); (case k1 => k_is)
    (case a2 => k_is); (case l2 => k_is); (case c2 => k_is); (case k2 => k_is)
    (case a3 => k_is); (case l3 => k_is); (case c3 => k_is); (case k3 => k_is)
    (case a4 => k_is); (case l4 => k_is); (case c4 => k_is); (case k4 => k_is)
    (case a5 => k_is); (case l5 => k_is); (case c5 => k_is); (case k5 => k_is)
    (case a6 => k_is); (case l6 => k_is); (case c6 => k_is); (case k6 => k_is)
    (case a7 => k_is); (case l7 => k_is); (case c7 => k_is); (case k7 => k_is)
    (case a8 => k_is); (case l8 => k_is); (case c8 => k_is); (case k8 => k_is)
    (case aC_Memory => first | k_is | rfl)
    (case pg_Memory => first | k_is | rfl)
    (case hd_Memory => first | k_is | rfl)
    (case po_Memory => first | k_is | rfl)
    (case sa_Memory => first | k_is | rfl)
    (case mk_Memory => first | k_is | rfl)
    (case kc_Memory => first | k_is | rfl)
    (case na_Memory_words => first | k_is | rfl)
    (case na_Memory_kept => first | k_is | rfl)
    (case na_Memory_total => first | k_is | rfl)
    (case na_Memory_missing => first | k_is | rfl)
    (case a_Memory___init__ => first | k_is | rfl)
    (case i_Memory___init__ => first | k_is | rfl)
    (case l_Memory___init__ => first | k_is | rfl)
    (case c_Memory___init__ => first | k_is | rfl)
    (case k_Memory___init__ => first | k_is | rfl)
    (case a_Memory_load => first | k_is | rfl)
    (case i_Memory_load => first | k_is | rfl)
    (case l_Memory_load => first | k_is | rfl)
    (case c_Memory_load => first | k_is | rfl)
    (case k_Memory_load => first | k_is | rfl)
    (case a_Memory_check => first | k_is | rfl)
    (case i_Memory_check => first | k_is | rfl)
    (case l_Memory_check => first | k_is | rfl)
    (case c_Memory_check => first | k_is | rfl)
    (case k_Memory_check => first | k_is | rfl)
    (case aC_PlacedError => first | k_is | rfl)
    (case eC_PlacedError => first | k_is | rfl)
    (case iC_PlacedError => first | k_is | rfl)
    (case tC_PlacedError => first | k_is | rfl)
    (case gnX => first | k_is | rfl)
    (case tkX => first | k_is | rfl)
    (case aC_CodeError => first | k_is | rfl)
    (case xL_CodeError => first | k_is | rfl)
    (case rv_CodeError => rfl)
    (case sa_CodeError => first | k_is | rfl)
    (case ga_CodeError => first | k_is | rfl)
    (case gg_CodeError => first | k_is | rfl)
    (case no_CodeError => first | k_is | rfl)
    (case kC_CodeError => first | k_is | rfl)
    (case eC_CodeError => first | k_is | rfl)
    (case tC_CodeError => first | k_is | rfl)
    (case hC_CodeError => first | k_is | rfl)
    (case cl_CodeError => first | k_is | rfl)
    (case ca_CodeError => first | k_is | rfl)
    (case mo_CodeError => first | k_is | rfl)
    (case ii_CodeError => first | k_is | rfl)
    (case ti_CodeError => first | k_is | rfl)
    (case li_CodeError => first | k_is | rfl)
    (case ci_CodeError => first | k_is | rfl)
    (case ki_CodeError => first | k_is | rfl)
    (case kv_CodeError => first | k_is | rfl)
    (case kp_CodeError => first | k_is | rfl)
    (case sP_CodeError => first | k_is | rfl)
    (case k00X => first | k_is | rfl)
    (case sS_CodeError => first | k_is | rfl)
    (case z_n_len => k_is)
    (case z_n_int => k_is)
    (case z_n_abs => k_is)
    (case z_n_range => k_is)
    (case z_n_list => k_is)
    (case z_n_enumerate => k_is)
    (case z_n_isinstance => k_is)
    (case z_c_LONGEST_PART => k_is)
#print axioms PySem.Challenge.cw_placedanyhow_k44_parts_of_images_holds
