import PyProof.Rows.All
import Wide.All
import OpenK.AllK
import Wide.FinOn
import HandS.ForMost
import HandS.IsInst
import HandS.Steps
import HandS.StrMore
import HandS.Codes
import HandS.More
import HandS.Strs
import HandS.Text
import HandS.TryOnly
import PyProof.AutoSeq1
import PySem.Challenge.RW_placedanyhow_k38_instructions_come_back
set_option Elab.async false
set_option linter.all false
set_option maxRecDepth 100000
set_option maxHeartbeats 4000000
namespace Y
open PySem L2

/-! ### rules joined -/
section
variable {X : Cx}
def rAddA (K : PySem.W.Frag) : R2 := fun x y H Q => rI0 (fun i j => .int (i + j)) x y H Q ∨ (∃ i j, x = V.str i ∧ y = V.str j ∧ i.length + j.length ≤ sizeLine ∧ Q (.str (i ++ j)) H) ∨ rCat x y H Q ∨ rCatT K x y H Q
theorem op_addA : OpR X (binaryOp .Add) (rAddA X.K) := op_add.or (op_add_str.or (op_cat.or op_catT))
def rEqA (K : PySem.W.Frag) : R2 := fun x y H Q => rEq x y H Q ∨ rEqD K x y H Q
def rNeA (K : PySem.W.Frag) : R2 := fun x y H Q => rNe x y H Q ∨ rNeD K x y H Q
theorem op_eqA (hu : X.A.units + 64 < cLine) : OpR X (compareOp .Eq) (rEqA X.K) := op_eq.or (op_eqD hu)
theorem op_neA (hu : X.A.units + 64 < cLine) : OpR X (compareOp .NotEq) (rNeA X.K) := op_ne.or (op_neD hu)
def rLenA (K : PySem.W.Frag) : List V → Hp → VK → Prop := fun xs H Q => (∃ p ys, xs = [V.ref p] ∧ (SqL K H p ys ∨ SqT K H p ys) ∧ Q (.int ys.length) H) ∨ ∃ z, xs = [V.str z] ∧ z.length ≤ sizeLine ∧ Q (.int z.length) H
theorem call_lenA : CallR X (.builtin "len") (rLenA X.K) := call_len_seq.or call_len_str
def rSlA (K : PySem.W.Frag) : V → Option Int → Option Int → Hp → VK → Prop := fun x lo hi H Q => rSlL K x lo hi H Q ∨ rSlT K x lo hi H Q
theorem sl_any : SlR X (rSlA X.K) := sl_list.or sl_tup
theorem hu64 {A : Around} {k : Nat} (hr : Room k A) : A.units + 64 < cLine := by have := hr.un; omega
theorem pe_globC {x : Str} {n : Int} {pos : Pos} (hg : Gl X x) (hm : ∃ t, X.mg x = some (.int n t)) (hd : (x == ("__debug__" : Str)) = false := by decide) : PE X (.Name x pos) (tC (.int n)) := by
  obtain ⟨t, h⟩ := hm
  exact pe_glob hg h ⟨t, rfl⟩ hd
theorem pe_ty {x : Str} {n : String} {pos : Pos} (hg : Gl X x) (hm : X.mg x = none) (hv : bootBuiltins x = some (.type n)) (hn : x ≠ "__name__" := by decide) (hd : (x == ("__debug__" : Str)) = false := by decide) : PE X (.Name x pos) (tC (.ty n)) := pe_bltn hg hm hv rfl hn hd
end

section
variable {X : Cx} {K : PySem.W.Frag}
theorem op_eqK (hK : X.K = K) (hu : X.A.units + 64 < cLine) : OpR X (compareOp .Eq) (rEqA K) := hK ▸ op_eqA hu
theorem op_neK (hK : X.K = K) (hu : X.A.units + 64 < cLine) : OpR X (compareOp .NotEq) (rNeA K) := hK ▸ op_neA hu
theorem op_addK (hK : X.K = K) : OpR X (binaryOp .Add) (rAddA K) := hK ▸ op_addA
theorem ix_seqK (hK : X.K = K) : IxR X (rIx K) := hK ▸ ix_seq
theorem call_lenK (hK : X.K = K) : CallR X (.builtin "len") (rLenA K) := hK ▸ call_lenA
theorem op_inK (hK : X.K = K) : OpR X (compareOp .In) (rIn K false) := hK ▸ op_in_seq
theorem op_notInK (hK : X.K = K) : OpR X (compareOp .NotIn) (rIn K true) := hK ▸ op_notIn_seq
theorem sl_anyK (hK : X.K = K) : SlR X (rSlA K) := hK ▸ sl_any
theorem pi_listK {tg l : Expr} {tl : TE} (hK : X.K = K) (hl : PE X l tl) : PI X tg l (iList K tl) := hK ▸ pi_list hl
end
section
variable {X : Cx}
def rIsN : R2 := fun x y H Q => y = .non ∧ Q (.bl (decide (x = .non))) H
def rNotN : R2 := fun x y H Q => y = .non ∧ Q (.bl (!decide (x = .non))) H
theorem op_isN1 : OpR X (compareOp .Is) rIsN := op_isN
theorem op_notN1 : OpR X (compareOp .IsNot) rNotN := op_notN
end
section
variable {X : Cx}
def rInt : List V → Hp → VK → Prop := fun xs H Q => (∃ i, xs = [V.int i] ∧ Q (.int i) H) ∨ ∃ k, xs = [.bl k] ∧ Q (.int (if k then 1 else 0)) H
def rAbs : List V → Hp → VK → Prop := fun xs H Q => ∃ i, xs = [V.int i] ∧ Q (.int (if i < 0 then -i else i)) H
def rListOf (K : PySem.W.Frag) : List V → Hp → VK → Prop := fun xs H Q => ∃ p ys, xs = [V.ref p] ∧ (SqL K H p ys ∨ SqT K H p ys) ∧ ∀ l, H l = none → Q (.ref l) (upd H l (.lst ys))
theorem call_intA : CallR X (.type "int") rInt := call_int1
theorem call_absA : CallR X (.builtin "abs") rAbs := call_abs
theorem call_listA : CallR X (.type "list") (rListOf X.K) := call_list_of
end
/-! ### defs -/
section
variable (P : Program) (w : World) (K : PySem.W.Frag) (mg : Str → Option Value) (base : Heap)
/-- a def of the text as it stands behind the top -/
def Dn (x : Str) (st : Stmt) (ps : List Str) : Prop := ∃ f fd, Fun K x x st f fd ∧ mg x = some (.ref f) ∧ Binds K fd ps []
/-- a def that keeps its promise -/
def Cal (x : Str) (k : Nat) (ps : List Str) (sp : Sp) : Prop := ∃ f fd, FnOk P w K mg base CX0 k f fd ps sp ∧ mg x = some (.ref f) ∧ PySem.W.keepIn K (.ref f) = true ∧ Binds K fd ps []
end
section
variable {P : Program} {w : World} {K : PySem.W.Frag} {mg : Str → Option Value} {base : Heap}
theorem Dn.ok {x : Str} {st : Stmt} {N ps : List Str} {k : Nat} {sp : Sp} (D : Dn K mg x st ps) (S : FnScope N ps (defScope st)) (len : ∀ vs H Q E, sp vs H Q E → vs.length = ps.length)
    (hbody : ∀ (f : Addr) (cdv : Value) (A : Around) (outer : List Env) (s : Shared) (H : Hp) (vs : List V) (Q : VK) (E : XK), Room k (A.deeper (PyProof.Rows.envOfC x (defScope st) s.heap.objs.size f cdv)) → sp vs H Q E →
      ∃ t, PSs (cxOf CX0 P w K mg base N x (defScope st) f cdv A outer s H E).nox (defBody st) t ∧ t { nx := fun _ H' => Q .non H', rt := Q } (start N vs) H) : Cal P w K mg base x (k + 1) ps sp := by
  obtain ⟨f, fd, F, m, b⟩ := D
  exact ⟨f, fd, F.ok S len (hbody f), m, F.kp, b⟩
theorem pe_cal {X : Cx} {x : Str} {k : Nat} {ps : List Str} {sp : Sp} {e : Expr} {es : List Expr} {t : TA} {p pos : Pos} (G : Cal X.prog X.w X.K X.mg X.base x k ps sp) (hr : Room k X.A) (hg : Gl X x) (ha : PA X (e :: es) t)
    (hdb : (x == ("__debug__" : Str)) = false := by decide) (he : starEach (e :: es) X.env = (false, eval e X.env) :: starEach es X.env := by rfl) (hpl : (backTo pos (starEach es X.env)).any (·.1) = false := by rfl) : PE X (.Call (.Name x p) (e :: es) [] pos) (tCall sp [] E0 t) := by
  obtain ⟨f, fd, F, m, kp, b⟩ := G
  exact pe_call F hr hg m kp b .nil pass0 ha hdb he hpl
theorem pe_cal0 {X : Cx} {x : Str} {k : Nat} {ps : List Str} {sp : Sp} {p pos : Pos} (G : Cal X.prog X.w X.K X.mg X.base x k ps sp) (hr : Room k X.A) (hg : Gl X x)
    (hdb : (x == ("__debug__" : Str)) = false := by decide) : PE X (.Call (.Name x p) [] [] pos) (tCall sp [] E0 tNil) := by
  obtain ⟨f, fd, F, m, kp, b⟩ := G
  exact pe_call0 F hr hg m kp b .nil pass0 hdb
end

/-! ### heaps -/
/-- all that was tracked stays -/
def Ex (H H' : Hp) : Prop := ∀ a o, H a = some o → H' a = some o
/-- all tuples stay, and all that is not at M -/
structure Kp (M : List Addr) (H H' : Hp) : Prop where
  tup : ∀ a xs, H a = some (.tup xs) → H' a = some (.tup xs)
  out : ∀ a o, a ∉ M → H a = some o → H' a = some o
theorem Ex.refl (H : Hp) : Ex H H := fun _ _ h => h
theorem Ex.trans {H H1 H2 : Hp} (a : Ex H H1) (b : Ex H1 H2) : Ex H H2 := fun x o h => b x o (a x o h)
theorem Ex.same {H H' : Hp} (e : Ex H H') : L2.Same H H' := e
theorem Ex.kp {M : List Addr} {H H' : Hp} (e : Ex H H') : Kp M H H' := ⟨fun a xs h => e a _ h, fun a o _ h => e a o h⟩
theorem Kp.refl {M : List Addr} (H : Hp) : Kp M H H := (Ex.refl H).kp
theorem Kp.trans {M : List Addr} {H H1 H2 : Hp} (a : Kp M H H1) (b : Kp M H1 H2) : Kp M H H2 := ⟨fun x o h => b.tup x o (a.tup x o h), fun x o n h => b.out x o n (a.out x o n h)⟩
theorem Kp.sub {M N : List Addr} {H H' : Hp} (a : Kp M H H') (s : ∀ x, x ∈ M → x ∈ N) : Kp N H H' := ⟨a.tup, fun x o n h => a.out x o (fun z => n (s x z)) h⟩
theorem Ex.mk {H H2 : Hp} {p : Addr} {o : HO} (h : H p = none) (e : upd H p o = H2) : Ex H H2 := fun a u ha => by
  rw [← e, upd_ne (ne_of_none ha h)]
  exact ha
theorem at_new {H H2 : Hp} {p : Addr} {o : HO} (e : upd H p o = H2) : H2 p = some o := by rw [← e]; exact upd_same
theorem Kp.set {M : List Addr} {H H2 : Hp} {p : Addr} {o : HO} (hm : p ∈ M) (ht : ∀ xs, H p ≠ some (.tup xs)) (e : upd H p o = H2) : Kp M H H2 := ⟨fun a xs h => by
  rw [← e, upd_ne (fun z => ht xs (by rw [← z]; exact h))]
  exact h, fun a u n h => by
  rw [← e, upd_ne (fun z => n (by rw [z]; exact hm))]
  exact h⟩
theorem free_back {H H' : Hp} {p : Addr} (e : Ex H H') (h : H' p = none) : H p = none := by
  cases h1 : H p with
  | none => rfl
  | some o => rw [e p o h1] at h; cases h
theorem free_backK {M : List Addr} {H H' : Hp} {p : Addr} (e : Kp M H H') (hm : p ∉ M) (h : H' p = none) : H p = none := by
  cases h1 : H p with
  | none => rfl
  | some o => rw [e.out p o hm h1] at h; cases h
theorem at_ex {H H' : Hp} {p : Addr} {o : HO} (e : Ex H H') (h : H p = some o) : H' p = some o := e p o h
theorem at_kp {M : List Addr} {H H' : Hp} {p : Addr} {o : HO} (e : Kp M H H') (hm : p ∉ M) (h : H p = some o) : H' p = some o := e.out p o hm h
theorem tup_kp {M : List Addr} {H H' : Hp} {p : Addr} {xs : List V} (e : Kp M H H') (h : H p = some (.tup xs)) : H' p = some (.tup xs) := e.tup p xs h
theorem sqt {K : PySem.W.Frag} {H : Hp} {p : Addr} {xs : List V} (h : H p = some (.tup xs)) : SqT K H p xs := Or.inl (Or.inl h)
theorem sql {K : PySem.W.Frag} {H : Hp} {p : Addr} {xs : List V} (h : H p = some (.lst xs)) : SqL K H p xs := Or.inl (Or.inl h)
theorem sl1000 {n : Nat} (h : n ≤ 100000) : n ≤ sizeLine := Nat.le_trans h (by decide)
theorem sl1000' {n : Nat} (h : n < 100000) : n < sizeLine := Nat.lt_of_lt_of_le h (by decide)

theorem at0 {α : Type} {x : α} {xs : List α} : atI (x :: xs) 0 = some x := atI_nat (j := 0) rfl
theorem at_i {α : Type} {xs : List α} {n : Int} (h0 : 0 ≤ n) (h1 : n < xs.length) : ∃ v, xs[n.toNat]? = some v ∧ atI xs n = some v := by
  have hk : n.toNat < xs.length := by omega
  have e : n = ((n.toNat : Nat) : Int) := by omega
  refine ⟨xs[n.toNat], List.getElem?_eq_getElem hk, ?_⟩
  have q : atI xs ((n.toNat : Nat) : Int) = some xs[n.toNat] := atI_nat (List.getElem?_eq_getElem hk)
  rw [← e] at q
  exact q
/-! ### readings, step by step -/
def newT (Q : VK) (xs : List V) (H : Hp) : Prop := xs.length ≤ sizeLine ∧ ∀ p, H p = none → Q (.ref p) (upd H p (.tup xs))
def newL (Q : VK) (xs : List V) (H : Hp) : Prop := xs.length ≤ sizeLine ∧ ∀ p, H p = none → Q (.ref p) (upd H p (.lst xs))
theorem cut1 (xs : List V) : cutV xs (some 1) none = xs.drop 1 := by
  unfold cutV
  rw [show HT.sIx xs.length 0 (some 1) = min 1 xs.length from HT.sIx_nat xs.length 0 1, HT.sIx_none]
  cases xs with
  | nil => rfl
  | cons x r =>
    rw [show min 1 (x :: r).length = 1 by
      rw [List.length_cons]
      omega]
    show (List.take ((x :: r).length - 1) r) = r
    rw [List.length_cons, Nat.add_sub_cancel]
    exact List.take_length
section
variable {K : PySem.W.Frag} {σ : L2.St} {H : Hp} {Q : VK} {QT : Bool → Hp → Prop} {QA : List V → Hp → Prop} {QS : L2.St → Hp → Prop} {v x y : V} {i : Nat} {ta tb te : TE} {t u c : TT} {tr : TA} {r : R2} {ts us : TS} {nx bk ct : L2.St → Hp → Prop} {rt : VK} {g : TG} {gs : TGs}
theorem r_var (h : σ[i]? = some (some v)) (q : Q v H) : tVar i σ H Q := ⟨v, h, q⟩
theorem r_c (q : Q v H) : tC v σ H Q := q
theorem r_op (q : ta σ H fun x H1 => tb σ H1 fun y H2 => r x y H2 Q) : tOp r ta tb σ H Q := q
theorem r_un {r : V → Hp → VK → Prop} (q : ta σ H fun x H1 => r x H1 Q) : tUn r ta σ H Q := q
theorem r_tup (q : tr σ H fun xs H1 => newT Q xs H1) : tTup tr σ H Q := q
theorem r_lst (q : tr σ H fun xs H1 => newL Q xs H1) : tLst tr σ H Q := q
theorem q_newT {xs : List V} (hl : xs.length ≤ 100000) (q : ∀ p Hn, H p = none → Ex H Hn → Hn p = some (.tup xs) → Q (.ref p) Hn) : newT Q xs H := ⟨sl1000 hl, fun p hp => q p _ hp (Ex.mk hp rfl) upd_same⟩
theorem q_newL {xs : List V} (hl : xs.length ≤ 100000) (q : ∀ p Hn, H p = none → Ex H Hn → Hn p = some (.lst xs) → Q (.ref p) Hn) : newL Q xs H := ⟨sl1000 hl, fun p hp => q p _ hp (Ex.mk hp rfl) upd_same⟩
theorem r_cons (q : ta σ H fun x H1 => tr σ H1 fun xs H2 => QA (x :: xs) H2) : tCons ta tr σ H QA := q
theorem r_nil (q : QA [] H) : tNil σ H QA := q
theorem r_cb {r : List V → Hp → VK → Prop} (q : tr σ H fun vs H1 => r vs H1 Q) : tCB r tr σ H Q := q
theorem r_call {sp : Sp} {E : XK} (q : tr σ H fun vs H1 => sp vs H1 Q E) : tCall sp [] E tr σ H Q := by
  have e : (fun (vs : List V) (H1 : Hp) => sp (vs ++ []) H1 Q E) = fun vs H1 => sp vs H1 Q E := by
    funext vs H1
    rw [List.append_nil]
  show tr σ H (fun vs H1 => sp (vs ++ []) H1 Q E)
  rw [e]
  exact q
theorem r_ifE (q : t σ H fun c H1 => if c = true then ta σ H1 Q else tb σ H1 Q) : tIf t ta tb σ H Q := q
theorem r_sl {r : V → Option Int → Option Int → Hp → VK → Prop} {tl th : TO} (q : te σ H fun x H1 => tl σ H1 fun l H2 => th σ H2 fun u H3 => r x l u H3 Q) : tSl r te tl th σ H Q := q
theorem r_nopart {Q : Option Int → Hp → Prop} (q : Q none H) : tNoPart σ H Q := q
theorem r_part {Q : Option Int → Hp → Prop} (q : te σ H fun x H1 => ∃ i, x = .int i ∧ Q (some i) H1) : tPart te σ H Q := q
theorem q_part {i : Int} {B : Int → Prop} (q : B i) : ∃ j, V.int i = .int j ∧ B j := ⟨i, rfl, q⟩
theorem r_dget {td ty : TE} (q : td σ H fun x H1 => ty σ H1 fun y H2 => ∃ a v, x = .ref a ∧ DGet H2 a y (some v) ∧ Q v H2) : tDGet td ty σ H Q := q
theorem q_dget {p : Addr} {kvs : List (Key × V)} {z : Str} {B : V → Prop} (h : H p = some (.dK kvs)) (hl : valV kvs (Sum.inr z) = some v) (q : B v) : ∃ a v', V.ref p = .ref a ∧ DGet H a (.str z) (some v') ∧ B v' :=
  ⟨p, v, rfl, by rw [← hl]; exact DGet.k (k := Sum.inr z) h, q⟩
theorem r_andV (q : ta σ H fun x H1 => ∃ c, x = .bl c ∧ if c = true then tb σ H1 Q else Q (.bl false) H1) : tAndV ta tb σ H Q := q
theorem r_orV (q : ta σ H fun x H1 => ∃ c, x = .bl c ∧ if c = true then Q (.bl true) H1 else tb σ H1 Q) : tOrV ta tb σ H Q := q
theorem r_notV (q : ta σ H fun x H1 => ∃ c, x = .bl c ∧ Q (.bl (!c)) H1) : tNotV ta σ H Q := q
theorem r_test (q : te σ H fun x H' => ∃ k, x = .bl k ∧ QT k H') : tTest te σ H QT := q
theorem r_tB (q : te σ H fun x H1 => ∃ c, x = .bl c ∧ QT c H1) : tB te σ H QT := q
theorem q_exb {b : Bool} {B : Bool → Prop} (q : B b) : ∃ k, V.bl b = .bl k ∧ B k := ⟨b, rfl, q⟩
theorem r_and (q : t σ H fun c H1 => if c = true then u σ H1 QT else QT false H1) : tAnd t u σ H QT := q
theorem r_or (q : t σ H fun c H1 => if c = true then QT true H1 else u σ H1 QT) : tOr t u σ H QT := q
theorem r_not (q : t σ H fun c H1 => QT (!c) H1) : tNot t σ H QT := q
theorem r_seq (q : ts ⟨us ⟨nx, rt, bk, ct⟩, rt, bk, ct⟩ σ H) : tSeq ts us ⟨nx, rt, bk, ct⟩ σ H := q
theorem r_next (q : nx σ H) : tNext ⟨nx, rt, bk, ct⟩ σ H := q
theorem r_ifS (q : c σ H fun b H1 => if b = true then ts ⟨nx, rt, bk, ct⟩ σ H1 else us ⟨nx, rt, bk, ct⟩ σ H1) : tIfS c ts us ⟨nx, rt, bk, ct⟩ σ H := q
theorem r_asg (q : te σ H fun x H1 => g x σ H1 nx) : tAsg te g ⟨nx, rt, bk, ct⟩ σ H := q
theorem r_aug {ti : TIp} (h : σ[i]? = some (some v)) (q : te σ H fun y H1 => ti v y H1 fun z H2 => nx (σ.set i (some z)) H2) : tAug i te ti ⟨nx, rt, bk, ct⟩ σ H := ⟨v, h, q⟩
theorem q_ip {f : Int → Int → Int} {i j : Int} (q : Q (.int (f i j)) H) : ipI f (.int i) (.int j) H Q := ⟨i, j, rfl, rfl, q⟩
theorem r_drop (q : te σ H fun _ H1 => nx σ H1) : tDrop te ⟨nx, rt, bk, ct⟩ σ H := q
theorem r_ret (q : te σ H rt) : tRet te ⟨nx, rt, bk, ct⟩ σ H := q
theorem r_retN (q : rt .non H) : tRetN ⟨nx, rt, bk, ct⟩ σ H := q
theorem r_gname (q : QS (σ.set i (some v)) H) : gName i v σ H QS := q
theorem r_gnil (q : QS σ H) : gNil [] σ H QS := ⟨rfl, q⟩
theorem r_gcons {vs : List V} (q : g v σ H fun σ' H' => gs vs σ' H' QS) : gCons g gs (v :: vs) σ H QS := ⟨v, vs, rfl, q⟩
theorem r_gtup {p : Addr} {xs : List V} {n : Nat} (h : SqT K H p xs) (hl : xs.length = n) (q : gs xs σ H QS) : gTup K n gs (.ref p) σ H QS := ⟨p, xs, rfl, h, hl, q⟩
theorem r_gsub {to ti : TE} {s : TSet} (q : to σ H fun o H1 => ti σ H1 fun i H2 => s o i v H2 fun H3 => QS σ H3) : gSub to ti s v σ H QS := q
theorem r_bm {T : String} {r : V → List V → Hp → VK → Prop} (q : te σ H fun x H1 => tyV K T x H1 ∧ tr σ H1 fun xs H2 => r x xs H2 Q) : tBM K T r te tr σ H Q := q
theorem r_bm0 {T : String} {r : V → List V → Hp → VK → Prop} (q : te σ H fun x H1 => tyV K T x H1 ∧ r x [] H1 Q) : tBM0 K T r te σ H Q := q
theorem q_tyL {p : Addr} {xs : List V} {A : Prop} (h : H p = some (.lst xs)) (q : A) : tyV K "list" (.ref p) H ∧ A := ⟨Or.inl ⟨rfl, xs, sql h⟩, q⟩

theorem cast_q {x y : V} (e : x = y) (h : Q x H) : Q y H := e ▸ h
/-! ### operations on values -/
theorem q_addI {i j : Int} (q : Q (.int (i + j)) H) : rAddA K (.int i) (.int j) H Q := .inl ⟨i, j, rfl, rfl, q⟩
theorem q_I0 {f : Int → Int → V} {i j : Int} (q : Q (f i j) H) : rI0 f (.int i) (.int j) H Q := ⟨i, j, rfl, rfl, q⟩
theorem q_I {C : Int → Int → Prop} {f : Int → Int → V} {i j : Int} (h : C i j) (q : Q (f i j) H) : rI C f (.int i) (.int j) H Q := ⟨i, j, rfl, rfl, h, q⟩
theorem q_U {f : Int → V} {i : Int} (q : Q (f i) H) : rU f (.int i) H Q := ⟨i, rfl, q⟩
theorem q_ixT {p : Addr} {xs : List V} {i : Int} (h : SqT K H p xs) (ha : atI xs i = some v) (q : Q v H) : rIx K (.ref p) (.int i) H Q := .inr (.inl ⟨p, xs, i, v, rfl, rfl, h, ha, q⟩)
theorem q_ixL {p : Addr} {xs : List V} {i : Int} (h : SqL K H p xs) (ha : atI xs i = some v) (q : Q v H) : rIx K (.ref p) (.int i) H Q := .inl ⟨p, xs, i, v, rfl, rfl, h, ha, q⟩
theorem q_eqY (hs : scal x y = true) (he : x = y) (q : Q (.bl true) H) : rEqA K x y H Q := .inl ⟨hs, by rw [decide_eq_true he]; exact q⟩
theorem q_eqN (hs : scal x y = true) (he : ¬ x = y) (q : Q (.bl false) H) : rEqA K x y H Q := .inl ⟨hs, by rw [decide_eq_false he]; exact q⟩
theorem q_eqI {i j : Int} (h1 : i = j → Q (.bl true) H) (h2 : ¬ i = j → Q (.bl false) H) : rEqA K (.int i) (.int j) H Q := by
  by_cases e : i = j
  · exact q_eqY rfl (by rw [e]) (h1 e)
  · exact q_eqN rfl (fun z => e (V.int.inj z)) (h2 e)
theorem q_eqS {i j : Str} (h1 : i = j → Q (.bl true) H) (h2 : ¬ i = j → Q (.bl false) H) : rEqA K (.str i) (.str j) H Q := by
  by_cases e : i = j
  · exact q_eqY rfl (by rw [e]) (h1 e)
  · exact q_eqN rfl (fun z => e (V.str.inj z)) (h2 e)
theorem q_neY (hs : scal x y = true) (he : ¬ x = y) (q : Q (.bl true) H) : rNeA K x y H Q := .inl ⟨hs, by rw [decide_eq_false he]; exact q⟩
theorem q_neN (hs : scal x y = true) (he : x = y) (q : Q (.bl false) H) : rNeA K x y H Q := .inl ⟨hs, by rw [decide_eq_true he]; exact q⟩
theorem q_neI {i j : Int} (h1 : ¬ i = j → Q (.bl true) H) (h2 : i = j → Q (.bl false) H) : rNeA K (.int i) (.int j) H Q := by
  by_cases e : i = j
  · exact q_neN rfl (by rw [e]) (h2 e)
  · exact q_neY rfl (fun z => e (V.int.inj z)) (h1 e)
theorem q_neS {i j : Str} (h1 : ¬ i = j → Q (.bl true) H) (h2 : i = j → Q (.bl false) H) : rNeA K (.str i) (.str j) H Q := by
  by_cases e : i = j
  · exact q_neN rfl (by rw [e]) (h2 e)
  · exact q_neY rfl (fun z => e (V.str.inj z)) (h1 e)
theorem q_cmp {f : Int → Int → Prop} [∀ i j, Decidable (f i j)] {i j : Int} (h1 : f i j → Q (.bl true) H) (h2 : ¬ f i j → Q (.bl false) H) : rI0 (fun i j => .bl (decide (f i j))) (.int i) (.int j) H Q := by
  refine ⟨i, j, rfl, rfl, ?_⟩
  show Q (V.bl (decide (f i j))) H
  by_cases e : f i j
  · rw [decide_eq_true e]; exact h1 e
  · rw [decide_eq_false e]; exact h2 e
theorem cmulL {i j : Int} (h : -(2 ^ 64) < i ∧ i < 2 ^ 64) : CMul i j := .inl h
theorem cmulR {i j : Int} (h : -(2 ^ 64) < j ∧ j < 2 ^ 64) : CMul i j := .inr h
theorem cdiv {i j : Int} (h : 0 < j ∧ j < 1073741824) : CDiv i j := h
theorem q_neD (hn : ¬ x = y) (hs : scal x y = true) (q : Q (.bl true) H) : rNeA K x y H Q := q_neY hs hn q
theorem q_cmpY {f : Int → Int → Prop} [∀ i j, Decidable (f i j)] {i j : Int} (h : f i j) (q : Q (.bl true) H) : rI0 (fun i j => .bl (decide (f i j))) (.int i) (.int j) H Q :=
  ⟨i, j, rfl, rfl, by show Q (V.bl (decide (f i j))) H; rw [decide_eq_true h]; exact q⟩
theorem q_cmpN {f : Int → Int → Prop} [∀ i j, Decidable (f i j)] {i j : Int} (h : ¬ f i j) (q : Q (.bl false) H) : rI0 (fun i j => .bl (decide (f i j))) (.int i) (.int j) H Q :=
  ⟨i, j, rfl, rfl, by show Q (V.bl (decide (f i j))) H; rw [decide_eq_false h]; exact q⟩
theorem q_isNY (he : x = .non) (q : Q (.bl true) H) : rIsN x .non H Q := ⟨rfl, by rw [decide_eq_true he]; exact q⟩
theorem q_isNN (he : ¬ x = .non) (q : Q (.bl false) H) : rIsN x .non H Q := ⟨rfl, by rw [decide_eq_false he]; exact q⟩
theorem q_notNY (he : x = .non) (q : Q (.bl false) H) : rNotN x .non H Q := ⟨rfl, by rw [decide_eq_true he]; exact q⟩
theorem q_notNN (he : ¬ x = .non) (q : Q (.bl true) H) : rNotN x .non H Q := ⟨rfl, by rw [decide_eq_false he]; exact q⟩
theorem q_lenL {p : Addr} {xs : List V} (h : SqL K H p xs) (q : Q (.int xs.length) H) : rLenA K [.ref p] H Q := .inl ⟨p, xs, rfl, .inl h, q⟩
theorem q_lenT {p : Addr} {xs : List V} (h : SqT K H p xs) (q : Q (.int xs.length) H) : rLenA K [.ref p] H Q := .inl ⟨p, xs, rfl, .inr h, q⟩
theorem q_sl1T {p : Addr} {xs : List V} (h : SqT K H p (x :: xs)) (q : ∀ p Hn, H p = none → Ex H Hn → Hn p = some (.tup xs) → Q (.ref p) Hn) : rSlA K (.ref p) (some 1) none H Q :=
  .inr ⟨p, x :: xs, rfl, h, fun z => by
    have e : HT.sIx (x :: xs).length 0 (some 1) = min 1 (x :: xs).length := HT.sIx_nat _ 0 1
    have z1 := z.1
    rw [e, List.length_cons] at z1
    omega, fun p hp => q p _ hp (Ex.mk hp rfl) (by rw [upd_same, cut1]; rfl)⟩
theorem q_sl1L {p : Addr} {xs : List V} (h : SqL K H p (x :: xs)) (q : ∀ p Hn, H p = none → Ex H Hn → Hn p = some (.lst xs) → Q (.ref p) Hn) : rSlA K (.ref p) (some 1) none H Q :=
  .inl ⟨p, x :: xs, rfl, h, fun p hp => q p _ hp (Ex.mk hp rfl) (by rw [upd_same, cut1]; rfl)⟩
theorem q_inT {p : Addr} {xs : List V} (h : SqT K H p xs) (hx : flatV x = true) (ha : xs.all flatV = true) (q : Q (.bl (inV x xs)) H) : rIn K false x (.ref p) H Q := ⟨p, xs, rfl, .inr h, hx, ha, q⟩
theorem q_inTY {p : Addr} {xs : List V} (h : SqT K H p xs) (hx : (flatV x && xs.all flatV && inV x xs) = true) (q : Q (.bl true) H) : rIn K false x (.ref p) H Q := by
  simp only [Bool.and_eq_true] at hx
  exact ⟨p, xs, rfl, .inr h, hx.1.1, hx.1.2, by rw [if_neg Bool.false_ne_true, hx.2]; exact q⟩
theorem q_inTN {p : Addr} {xs : List V} (h : SqT K H p xs) (hx : (flatV x && xs.all flatV && !inV x xs) = true) (q : Q (.bl false) H) : rIn K false x (.ref p) H Q := by
  simp only [Bool.and_eq_true, Bool.not_eq_true'] at hx
  exact ⟨p, xs, rfl, .inr h, hx.1.1, hx.1.2, by rw [if_neg Bool.false_ne_true, hx.2]; exact q⟩
theorem q_inLY {p : Addr} {xs : List V} (h : SqL K H p xs) (hx : (flatV x && xs.all flatV && inV x xs) = true) (q : Q (.bl true) H) : rIn K false x (.ref p) H Q := by
  simp only [Bool.and_eq_true] at hx
  exact ⟨p, xs, rfl, .inl h, hx.1.1, hx.1.2, by rw [if_neg Bool.false_ne_true, hx.2]; exact q⟩
theorem q_inLN {p : Addr} {xs : List V} (h : SqL K H p xs) (hx : (flatV x && xs.all flatV && !inV x xs) = true) (q : Q (.bl false) H) : rIn K false x (.ref p) H Q := by
  simp only [Bool.and_eq_true, Bool.not_eq_true'] at hx
  exact ⟨p, xs, rfl, .inl h, hx.1.1, hx.1.2, by rw [if_neg Bool.false_ne_true, hx.2]; exact q⟩
theorem q_isi {t : Value} {T : String} {b : Bool} (ty : TyOf K H x t) (e : PySem.W.kitOne K t (.type T) = some b) (q : Q (.bl b) H) : rIsi K [x, .ty T] H Q := ⟨x, .ty T, t, .type T, b, rfl, .ty T, .base ty, e, q⟩
theorem q_isiBI {i : Int} (q : Q (.bl false) H) : rIsi K [.int i, .ty "bool"] H Q := q_isi (.int i) (kit_ty (by decide +kernel)) q
theorem q_isiBN (q : Q (.bl false) H) : rIsi K [.non, .ty "bool"] H Q := q_isi .non (kit_ty (by decide +kernel)) q
def dispK (Q : VK) (p : Addr) (ps : List (V × V)) (H : Hp) : Prop := H p = some (.dK []) ∧ ∃ kvs : List (Key × V), ps = kvs.map (fun kv => (kV kv.1, kv.2)) ∧ kvs.length ≤ 15 ∧ Q (.ref p) (upd H p (.dK (mergeK [] kvs)))
theorem r_disp {trs : List (TE × TE)} (q : ∀ p Hn, H p = none → Ex H Hn → Hn p = some (.dK []) → tPairs trs σ Hn fun ps H2 => dispK Q p ps H2) : tDisp trs σ H Q := fun p hp => q p _ hp (Ex.mk hp rfl) upd_same
theorem r_pnil {QP : List (V × V) → Hp → Prop} (q : QP [] H) : tPairs [] σ H QP := q
theorem r_pcons {QP : List (V × V) → Hp → Prop} {tk tv : TE} {r : List (TE × TE)} (q : tk σ H fun x H1 => tv σ H1 fun y H2 => tPairs r σ H2 fun ps H3 => QP ((x, y) :: ps) H3) : tPairs ((tk, tv) :: r) σ H QP := q
theorem merge_nd {kvs : List (Key × V)} (h : (kvs.map (·.1)).Nodup) : mergeK [] kvs = kvs := by
  have key : ∀ (more acc : List (Key × V)), ((acc ++ more).map (·.1)).Nodup → mergeK acc more = acc ++ more := by
    intro more
    induction more with
    | nil => intro acc _; rw [List.append_nil]; rfl
    | cons p r ih =>
      intro acc h
      have hp : valV acc p.1 = none := by
        cases hv : valV acc p.1 with
        | none => rfl
        | some x =>
          exfalso
          have hm := valV_in hv
          rw [List.map_append, List.nodup_append] at h
          exact h.2.2 _ hm _ (by simp) rfl
      show mergeK (putK acc p.1 p.2) r = acc ++ p :: r
      rw [putK_new _ hp, ih _ (by rw [List.append_assoc]; exact h), List.append_assoc]
      rfl
  exact key kvs [] h
theorem q_disp {p : Addr} {ps : List (V × V)} (kvs : List (Key × V)) (h : H p = some (.dK [])) (e : ps = kvs.map (fun kv => (kV kv.1, kv.2))) (nd : (kvs.map (·.1)).Nodup) (hl : kvs.length ≤ 15)
    (q : ∀ Hn, Kp [p] H Hn → Hn p = some (.dK kvs) → Q (.ref p) Hn) : dispK Q p ps H := ⟨h, kvs, e, hl, by
  rw [merge_nd nd]
  exact q _ (Kp.set (List.mem_singleton.mpr rfl) (fun xs z => by rw [h] at z; cases z) rfl) upd_same⟩
theorem q_inL {p : Addr} {xs : List V} (h : SqL K H p xs) (hx : flatV x = true) (ha : xs.all flatV = true) (q : Q (.bl (inV x xs)) H) : rIn K false x (.ref p) H Q := ⟨p, xs, rfl, .inl h, hx, ha, q⟩
theorem r_iL {tl : TE} {R : It → Hp → Prop} (q : tl σ H fun x H1 => ∃ a, x = .ref a ∧ (∃ xs, SqL K H1 a xs) ∧ R (Itl K a) H1) : iList K tl σ H R := q
theorem q_iL {a : Addr} {xs : List V} {B : Addr → Prop} (h : SqL K H a xs) (q : B a) : ∃ b, V.ref a = .ref b ∧ (∃ xs, SqL K H b xs) ∧ B b := ⟨a, rfl, ⟨xs, h⟩, q⟩
theorem r_iT {tl : TE} {R : It → Hp → Prop} (q : tl σ H fun x H1 => ∃ a, x = .ref a ∧ (∃ xs, SqT K H1 a xs) ∧ R (Itt K a) H1) : iTup K tl σ H R := q
theorem q_iT {a : Addr} {xs : List V} {B : Addr → Prop} (h : SqT K H a xs) (q : B a) : ∃ b, V.ref a = .ref b ∧ (∃ xs, SqT K H b xs) ∧ B b := ⟨a, rfl, ⟨xs, h⟩, q⟩
theorem r_rng1 {R : It → Hp → Prop} (q : tr σ H fun vs H1 => ∃ j : Int, vs = [.int j] ∧ -(2 ^ 62) ≤ j ∧ j < 2 ^ 62 ∧ R (Itr 0 j.toNat) H1) : iRng1 tr σ H R := q
theorem q_rng1 {j : Int} {B : Int → Prop} (h : 0 ≤ j ∧ j ≤ 1000000) (q : B j) : ∃ i : Int, [V.int j] = [.int i] ∧ -(2 ^ 62) ≤ i ∧ i < 2 ^ 62 ∧ B i := ⟨j, rfl, by omega, by omega, q⟩
theorem r_rng2 {R : It → Hp → Prop} (q : tr σ H fun vs H1 => ∃ i j : Int, vs = [.int i, .int j] ∧ (-(2 ^ 62) ≤ i ∧ i < 2 ^ 62 ∧ -(2 ^ 62) ≤ j ∧ j < 2 ^ 62) ∧ R (Itr i (j - i).toNat) H1) : iRng2 tr σ H R := q
theorem q_rng2 {i j : Int} {B : Int → Int → Prop} (h : 0 ≤ i ∧ i ≤ 1000000 ∧ 0 ≤ j ∧ j ≤ 1000000) (q : B i j) : ∃ a b : Int, [V.int i, V.int j] = [.int a, .int b] ∧ (-(2 ^ 62) ≤ a ∧ a < 2 ^ 62 ∧ -(2 ^ 62) ≤ b ∧ b < 2 ^ 62) ∧ B a b :=
  ⟨i, j, rfl, ⟨by omega, by omega, by omega, by omega⟩, q⟩
theorem r_lc {wi : TI} {vs : List Nat} (q : wi σ H fun J H1 => ∀ D, H1 D = none → ∃ W : Nat → Nat → Hp → Prop, (∃ m, W 0 m (upd H1 D (.lst []))) ∧ ∀ i m H, W i m H →
  (J.stop i H ∧ Q (.ref D) H) ∨ (J.go i H ∧ ∃ Nx : Hp → Prop, (∀ H', Nx H' → ∃ m', m' < m ∧ W (i + 1) m' H') ∧ ∀ x H', J.yld i H x H' → g x (wipe σ vs) H' fun σ2 H2 => wipe σ2 vs = wipe σ vs ∧ t σ2 H2 fun b H3 =>
    if b = true then te σ2 H3 fun y H4 => ∃ acc, H4 D = some (.lst acc) ∧ acc.length < sizeLine ∧ Nx (upd H4 D (.lst (acc ++ [y]))) else Nx H3)) : tLc wi g t te vs σ H Q := q
theorem r_yes (q : QT true H) : tYes σ H QT := q
theorem r_for {wi : TI} (q : wi σ H fun J H1 => ∃ W : Nat → Nat → L2.St → Hp → Prop, (∃ m, W 0 m σ H1) ∧ ∀ i m σ H, W i m σ H →
  (J.stop i H ∧ nx σ H) ∨ (J.go i H ∧ ∃ N : L2.St → Hp → Prop, (∀ σ' H', N σ' H' → ∃ m', m' < m ∧ W (i + 1) m' σ' H') ∧ ∀ x H', J.yld i H x H' → g x σ H' fun σ2 H2 => ts ⟨N, rt, nx, N⟩ σ2 H2)) : tFor wi g ts ⟨nx, rt, bk, ct⟩ σ H := q
/-- the loops' words -/
theorem w_list {a : Addr} {xs : List V} (Pv : Nat → L2.St → Hp → Prop) (h0 : Pv 0 σ H) (hl : ∀ i σ H, i ≤ xs.length → Pv i σ H → SqL K H a xs)
    (hs : ∀ i x σ H, xs[i]? = some x → Pv i σ H → g x σ H fun σ2 H2 => ts ⟨Pv (i + 1), rt, nx, Pv (i + 1)⟩ σ2 H2) (hd : ∀ σ H, Pv xs.length σ H → nx σ H) :
    ∃ W : Nat → Nat → L2.St → Hp → Prop, (∃ m, W 0 m σ H) ∧ ∀ i m σ H, W i m σ H →
      ((Itl K a).stop i H ∧ nx σ H) ∨ ((Itl K a).go i H ∧ ∃ N : L2.St → Hp → Prop, (∀ σ' H', N σ' H' → ∃ m', m' < m ∧ W (i + 1) m' σ' H') ∧ ∀ x H', (Itl K a).yld i H x H' → g x σ H' fun σ2 H2 => ts ⟨N, rt, nx, N⟩ σ2 H2) :=
  for_list (D := ⟨nx, rt, nx, nx⟩) Pv h0 hl hs hd
theorem w_tup {a : Addr} {xs : List V} (Pv : Nat → L2.St → Hp → Prop) (h0 : Pv 0 σ H) (hl : ∀ i σ H, i ≤ xs.length → Pv i σ H → SqT K H a xs)
    (hs : ∀ i x σ H, xs[i]? = some x → Pv i σ H → g x σ H fun σ2 H2 => ts ⟨Pv (i + 1), rt, nx, Pv (i + 1)⟩ σ2 H2) (hd : ∀ σ H, Pv xs.length σ H → nx σ H) :
    ∃ W : Nat → Nat → L2.St → Hp → Prop, (∃ m, W 0 m σ H) ∧ ∀ i m σ H, W i m σ H →
      ((Itt K a).stop i H ∧ nx σ H) ∨ ((Itt K a).go i H ∧ ∃ N : L2.St → Hp → Prop, (∀ σ' H', N σ' H' → ∃ m', m' < m ∧ W (i + 1) m' σ' H') ∧ ∀ x H', (Itt K a).yld i H x H' → g x σ H' fun σ2 H2 => ts ⟨N, rt, nx, N⟩ σ2 H2) :=
  for_tup (D := ⟨nx, rt, nx, nx⟩) Pv h0 hl hs hd
theorem w_rng {lo : Int} {n : Nat} (Pv : Nat → L2.St → Hp → Prop) (h0 : Pv 0 σ H)
    (hs : ∀ i σ H, i < n → Pv i σ H → g (.int (lo + i)) σ H fun σ2 H2 => ts ⟨Pv (i + 1), rt, nx, Pv (i + 1)⟩ σ2 H2) (hd : ∀ σ H, Pv n σ H → nx σ H) :
    ∃ W : Nat → Nat → L2.St → Hp → Prop, (∃ m, W 0 m σ H) ∧ ∀ i m σ H, W i m σ H →
      ((Itr lo n).stop i H ∧ nx σ H) ∨ ((Itr lo n).go i H ∧ ∃ N : L2.St → Hp → Prop, (∀ σ' H', N σ' H' → ∃ m', m' < m ∧ W (i + 1) m' σ' H') ∧ ∀ x H', (Itr lo n).yld i H x H' → g x σ H' fun σ2 H2 => ts ⟨N, rt, nx, N⟩ σ2 H2) :=
  for_range (D := ⟨nx, rt, nx, nx⟩) Pv h0 hs hd
theorem r_iS {tl : TE} {R : It → Hp → Prop} (q : tl σ H fun v H1 => ∃ x, v = .str x ∧ R (Its x) H1) : iStr tl σ H R := q
theorem q_iS {z : Str} {B : Str → Prop} (q : B z) : ∃ x, V.str z = .str x ∧ B x := ⟨z, rfl, q⟩
theorem w_str {x : Str} (Pv : Nat → L2.St → Hp → Prop) (h0 : Pv 0 σ H)
    (hs : ∀ i c σ H, x.cps.toList[i]? = some c → Pv i σ H → g (.str ⟨#[c]⟩) σ H fun σ2 H2 => ts ⟨Pv (i + 1), rt, nx, Pv (i + 1)⟩ σ2 H2) (hd : ∀ σ H, Pv x.cps.toList.length σ H → nx σ H) :
    ∃ W : Nat → Nat → L2.St → Hp → Prop, (∃ m, W 0 m σ H) ∧ ∀ i m σ H, W i m σ H →
      ((Its x).stop i H ∧ nx σ H) ∨ ((Its x).go i H ∧ ∃ N : L2.St → Hp → Prop, (∀ σ' H', N σ' H' → ∃ m', m' < m ∧ W (i + 1) m' σ' H') ∧ ∀ v H', (Its x).yld i H v H' → g v σ H' fun σ2 H2 => ts ⟨N, rt, nx, N⟩ σ2 H2) := by
  have hz : x.cps.toList.length = x.cps.size := Array.length_toList
  refine ⟨fun i m σ H => m = x.cps.size - i ∧ i ≤ x.cps.size ∧ Pv i σ H, ⟨x.cps.size, by simp, Nat.zero_le _, h0⟩, ?_⟩
  rintro i m σ H ⟨rfl, hi, p⟩
  by_cases hlt : i < x.cps.size
  · refine .inr ⟨hlt, Pv (i + 1), fun σ' H' p' => ⟨x.cps.size - (i + 1), by omega, rfl, hlt, p'⟩, fun v H' y => ?_⟩
    obtain ⟨e, c, hc, ev⟩ := y
    subst e
    subst ev
    exact hs i c _ _ (by rw [Array.getElem?_toList]; exact hc) p
  · have e : i = x.cps.toList.length := by omega
    subst e
    exact .inl ⟨by show x.cps.size ≤ _; omega, hd _ _ p⟩
theorem w_while (W : Nat → L2.St → Hp → Prop) (m0 : Nat) (h0 : W m0 σ H)
    (hs : ∀ m σ' H', W m σ' H' → c σ' H' fun b H1 => if b = true then ts ⟨fun σ2 H2 => ∃ m', m' < m ∧ W m' σ2 H2, rt, nx, fun σ2 H2 => ∃ m', m' < m ∧ W m' σ2 H2⟩ σ' H1 else nx σ' H1)
    (mono : ∀ σ H Q Q', (∀ b H1, Q b H1 → Q' b H1) → c σ H Q → c σ H Q') : tWhile c ts ⟨nx, rt, bk, ct⟩ σ H := by
  refine ⟨W, ⟨m0, h0⟩, fun m σ' H' hw => mono σ' H' _ _ (fun b H1 q => ?_) (hs m σ' H' hw)⟩
  cases b with
  | true => exact ⟨_, fun _ _ n => n, q⟩
  | false => exact q
theorem q_setL {p : Addr} {xs : List V} {k : Int} {j : Nat} {QH : Hp → Prop} (h : H p = some (.lst xs)) (hj : ixN xs.length k = some j) (q : QH (upd H p (.lst (xs.set j v)))) : rSetL (.ref p) (.int k) v H QH := ⟨p, xs, k, j, rfl, rfl, h, hj, q⟩
theorem q_append {l : Addr} {xs : List V} (h : H l = some (.lst xs)) (hz : xs.length < 100000) (q : Q .non (upd H l (.lst (xs ++ [y])))) : rAppend (.ref l) [y] H Q := ⟨l, xs, y, rfl, rfl, h, sl1000' hz, q⟩
theorem q_pop0 {l : Addr} {xs : List V} (h : H l = some (.lst (x :: xs))) (q : Q x (upd H l (.lst xs))) : rPopAt (.ref l) [.int 0] H Q := ⟨l, x :: xs, 0, 0, x, rfl, rfl, h, by decide, by decide, by simp [seqIndex?], rfl, q⟩
theorem q_abs {i : Int} (q : Q (.int (if i < 0 then -i else i)) H) : rAbs [.int i] H Q := ⟨i, rfl, q⟩
theorem q_int {i : Int} (q : Q (.int i) H) : rInt [.int i] H Q := .inl ⟨i, rfl, q⟩
theorem q_intT (q : Q (.int 1) H) : rInt [.bl true] H Q := .inr ⟨true, rfl, q⟩
theorem q_intF (q : Q (.int 0) H) : rInt [.bl false] H Q := .inr ⟨false, rfl, q⟩
theorem q_intNT (q : Q (.int 1) H) : rInt [.bl (!false)] H Q := .inr ⟨true, rfl, q⟩
theorem q_intNF (q : Q (.int 0) H) : rInt [.bl (!true)] H Q := .inr ⟨false, rfl, q⟩
theorem iteNT {A B : Prop} (h : A) : if (!false) = true then A else B := by simpa using h
theorem iteNF {A B : Prop} (h : B) : if (!true) = true then A else B := by simpa using h
theorem q_listL {p : Addr} {ys : List V} (h : SqL K H p ys) (q : ∀ p Hn, H p = none → Ex H Hn → Hn p = some (.lst ys) → Q (.ref p) Hn) : rListOf K [.ref p] H Q := ⟨p, ys, rfl, .inl h, fun p hp => q p _ hp (Ex.mk hp rfl) upd_same⟩
theorem q_listT {p : Addr} {ys : List V} (h : SqT K H p ys) (q : ∀ p Hn, H p = none → Ex H Hn → Hn p = some (.lst ys) → Q (.ref p) Hn) : rListOf K [.ref p] H Q := ⟨p, ys, rfl, .inr h, fun p hp => q p _ hp (Ex.mk hp rfl) upd_same⟩
end

/-! ### tests that hand on more where more is wished (for while) -/
section
variable {K : PySem.W.Frag}
def MoE (t : TE) : Prop := ∀ σ H (Q Q' : VK), (∀ v H1, Q v H1 → Q' v H1) → t σ H Q → t σ H Q'
def MoT (t : TT) : Prop := ∀ σ H (Q Q' : Bool → Hp → Prop), (∀ v H1, Q v H1 → Q' v H1) → t σ H Q → t σ H Q'
def MoA (t : TA) : Prop := ∀ σ H (Q Q' : List V → Hp → Prop), (∀ v H1, Q v H1 → Q' v H1) → t σ H Q → t σ H Q'
def MoR (r : R2) : Prop := ∀ x y H (Q Q' : VK), (∀ v H1, Q v H1 → Q' v H1) → r x y H Q → r x y H Q'
def MoC (r : List V → Hp → VK → Prop) : Prop := ∀ x H (Q Q' : VK), (∀ v H1, Q v H1 → Q' v H1) → r x H Q → r x H Q'
theorem mo_var {i : Nat} : MoE (tVar i) := fun _ _ _ _ k ⟨v, h, q⟩ => ⟨v, h, k _ _ q⟩
theorem mo_c {v : V} : MoE (tC v) := fun _ _ _ _ k q => k _ _ q
theorem mo_op {r : R2} {a b : TE} (hr : MoR r) (ha : MoE a) (hb : MoE b) : MoE (tOp r a b) := fun σ H Q Q' k h => ha _ _ _ _ (fun x H1 q => hb _ _ _ _ (fun y H2 q => hr _ _ _ _ _ k q) q) h
theorem mo_test {a : TE} (ha : MoE a) : MoT (tTest a) := fun σ H Q Q' k h => ha _ _ _ _ (fun x H1 ⟨c, e, q⟩ => ⟨c, e, k _ _ q⟩) h
theorem mo_and {a b : TT} (ha : MoT a) (hb : MoT b) : MoT (tAnd a b) := fun σ H Q Q' k h => ha _ _ _ _ (fun c H1 q => by
  cases c
  · exact k _ _ q
  · exact hb _ _ _ _ k q) h
theorem mo_or {a b : TT} (ha : MoT a) (hb : MoT b) : MoT (tOr a b) := fun σ H Q Q' k h => ha _ _ _ _ (fun c H1 q => by
  cases c
  · exact hb _ _ _ _ k q
  · exact k _ _ q) h
theorem mo_not {a : TT} (ha : MoT a) : MoT (tNot a) := fun σ H Q Q' k h => ha _ _ _ _ (fun c H1 q => k _ _ q) h
theorem mo_nil : MoA tNil := fun _ _ _ _ k q => k _ _ q
theorem mo_cons {a : TE} {r : TA} (ha : MoE a) (hr : MoA r) : MoA (tCons a r) := fun σ H Q Q' k h => ha _ _ _ _ (fun x H1 q => hr _ _ _ _ (fun xs H2 q => k _ _ q) q) h
theorem mo_cb {r : List V → Hp → VK → Prop} {a : TA} (hr : MoC r) (ha : MoA a) : MoE (tCB r a) := fun σ H Q Q' k h => ha _ _ _ _ (fun x H1 q => hr _ _ _ _ k q) h
theorem mo_I0 {f : Int → Int → V} : MoR (rI0 f) := fun _ _ _ _ _ k ⟨i, j, a, b, q⟩ => ⟨i, j, a, b, k _ _ q⟩
theorem mo_I {C : Int → Int → Prop} {f : Int → Int → V} : MoR (rI C f) := fun _ _ _ _ _ k ⟨i, j, a, b, c, q⟩ => ⟨i, j, a, b, c, k _ _ q⟩
theorem mo_eqA : MoR (rEqA K) := fun _ _ _ _ _ k h => h.elim (fun ⟨a, q⟩ => .inl ⟨a, k _ _ q⟩) fun ⟨d, e, a, b, c, f, q⟩ => .inr ⟨d, e, a, b, c, f, k _ _ q⟩
theorem mo_neA : MoR (rNeA K) := fun _ _ _ _ _ k h => h.elim (fun ⟨a, q⟩ => .inl ⟨a, k _ _ q⟩) fun ⟨d, e, a, b, c, f, q⟩ => .inr ⟨d, e, a, b, c, f, k _ _ q⟩
theorem mo_ix : MoR (rIx K) := fun _ _ _ _ _ k h => by
  rcases h with ⟨p, xs, i, v, a, b, c, d, q⟩ | ⟨p, xs, i, v, a, b, c, d, q⟩ | ⟨z, i, c, a, b, d, e, q⟩
  · exact .inl ⟨p, xs, i, v, a, b, c, d, k _ _ q⟩
  · exact .inr (.inl ⟨p, xs, i, v, a, b, c, d, k _ _ q⟩)
  · exact .inr (.inr ⟨z, i, c, a, b, d, e, k _ _ q⟩)
theorem mo_lenA : MoC (rLenA K) := fun _ _ _ _ k h => by
  rcases h with ⟨p, ys, a, b, q⟩ | ⟨z, a, b, q⟩
  · exact .inl ⟨p, ys, a, b, k _ _ q⟩
  · exact .inr ⟨z, a, b, k _ _ q⟩
theorem ix0 {n : Nat} : ixN (n + 1) 0 = some 0 := by
  unfold ixN
  rw [if_pos (by decide), if_pos (by omega)]
  rfl
end
end Y
namespace Y
open PySem L2
def topS (i : Nat) : Stmt := PySem.Challenge.pw_placedanyhow_k38_instructions_come_back.main.body.getD i (.Pass ⟨0, 0, 0, 0⟩)
local macro_rules | `(tactic| walk_at "lift") => `(tactic| first
  | assumption
  | (refine at_ex (by assumption) ?_; walk_at "lift")
  | (refine tup_kp (by assumption) ?_; walk_at "lift")
  | (refine at_kp (by assumption) (by walk_at "nin") ?_; walk_at "lift"))
local macro_rules | `(tactic| walk_at "sq") => `(tactic| first
  | assumption
  | (refine sqt ?_; walk_at "lift")
  | (refine sql ?_; walk_at "lift"))
local macro_rules | `(tactic| walk_at "ar") => `(tactic| first
  | assumption
  | omega
  | (refine And.intro ?_ ?_ <;> omega)
  | (refine cdiv ⟨?_, ?_⟩ <;> omega)
  | (refine cmulL ⟨?_, ?_⟩ <;> omega)
  | (refine cmulR ⟨?_, ?_⟩ <;> omega)
  | decide)
set_option hygiene false in
local macro_rules | `(tactic| walk_at "i_disp") => `(tactic| intro dp Hn hdp ke hdn)
set_option hygiene false in
local macro_rules | `(tactic| walk_at "i_new") => `(tactic| intro p Hn hp ke hn)
local macro_rules | `(tactic| walk_at "len") => `(tactic| first | decide | (simp only [List.length_cons, List.length_nil, List.length_append, List.length_map]; omega))
local macro_rules | `(tactic| walk_at "new") => `(tactic| first
  | ((with_reducible refine q_newT ?h ?_); (case h => walk_at "len"); walk_at "i_new")
  | ((with_reducible refine q_newL ?h ?_); (case h => walk_at "len"); walk_at "i_new")
  | ((with_reducible refine q_sl1T (x := ?x) (xs := ?xs) ?h ?_); (case h => walk_at "sq"); walk_at "i_new")
  | ((with_reducible refine q_sl1L (x := ?x) (xs := ?xs) ?h ?_); (case h => walk_at "sq"); walk_at "i_new")
  | ((with_reducible refine q_listL (ys := ?ys) ?h ?_); (case h => walk_at "sq"); walk_at "i_new")
  | ((with_reducible refine q_listT (ys := ?ys) ?h ?_); (case h => walk_at "sq"); walk_at "i_new"))
local macro_rules | `(tactic| walk_at "arx") => `(tactic| first
  | omega
  | decide
  | (simp only [List.length_cons, List.length_nil, List.length_map]; omega))
set_option hygiene false in
local macro_rules | `(tactic| walk_at "q") => `(tactic| exact q)
local macro_rules | `(tactic| walk_at "st") => `(tactic| first
  | with_reducible refine r_seq ?_
  | with_reducible refine r_ifS ?_
  | with_reducible refine r_asg ?_
  | with_reducible refine r_ret ?_
  | with_reducible refine r_retN ?_
  | with_reducible refine r_next ?_
  | with_reducible refine r_drop ?_
  | ((with_reducible refine r_aug (v := ?v) ?h ?_); (case h => exact rfl))
  | with_reducible refine q_ip ?_
  | ((with_reducible refine r_var (v := ?v) ?h ?_); (case h => exact rfl))
  | with_reducible refine r_c ?_
  | with_reducible refine r_op ?_
  | with_reducible refine r_un ?_
  | with_reducible refine r_test ?_
  | with_reducible refine r_tB ?_
  | with_reducible refine q_exb ?_
  | with_reducible refine r_and ?_
  | with_reducible refine r_or ?_
  | with_reducible refine r_not ?_
  | with_reducible refine r_andV ?_
  | with_reducible refine r_orV ?_
  | with_reducible refine r_notV ?_
  | with_reducible refine r_ifE ?_
  | with_reducible refine iteT ?_
  | with_reducible refine iteF ?_
  | with_reducible refine iteNT ?_
  | with_reducible refine iteNF ?_
  | with_reducible refine q_intNT ?_
  | with_reducible refine q_intNF ?_
  | with_reducible refine r_cons ?_
  | with_reducible refine r_nil ?_
  | with_reducible refine r_cb ?_
  | with_reducible refine r_call ?_
  | with_reducible refine r_tup ?_
  | with_reducible refine r_lst ?_
  | with_reducible refine r_gname ?_
  | with_reducible refine r_gnil ?_
  | with_reducible refine r_gcons ?_
  | with_reducible refine r_gsub ?_
  | ((with_reducible refine r_gtup (xs := ?xs) ?h ?l ?_); (case h => walk_at "sq"); (case l => rfl))
  | with_reducible refine r_sl ?_
  | with_reducible refine r_part ?_
  | with_reducible refine r_nopart ?_
  | with_reducible refine q_part ?_
  | with_reducible refine r_dget ?_
  | ((with_reducible refine q_dget (kvs := ?kvs) (v := ?v) ?h ?l ?_); (case h => walk_at "lift"); (case l => first | assumption | rfl))
  | with_reducible refine r_bm ?_
  | with_reducible refine r_bm0 ?_
  | with_reducible refine q_addI ?_
  | ((with_reducible refine q_eqY ?s ?e ?_); (case e => first | exact rfl | decide +kernel); (case s => rfl))
  | ((with_reducible refine q_eqN ?s ?e ?_); (case e => decide +kernel); (case s => rfl))
  | ((with_reducible refine q_eqN ?s ?e ?_); (case e => walk_at "ne"); (case s => rfl))
  | (with_reducible refine q_eqI (fun c => ?_) (fun c => ?_))
  | (with_reducible refine q_eqS (fun c => ?_) (fun c => ?_))
  | ((with_reducible refine q_neY ?s ?e ?_); (case e => decide +kernel); (case s => rfl))
  | ((with_reducible refine q_neN ?s ?e ?_); (case e => first | exact rfl | decide +kernel); (case s => rfl))
  | (with_reducible refine q_neI (fun c => ?_) (fun c => ?_))
  | (with_reducible refine q_neS (fun c => ?_) (fun c => ?_))
  | ((with_reducible refine q_cmpY ?h ?_); (case h => walk_at "arx"))
  | ((with_reducible refine q_cmpN ?h ?_); (case h => walk_at "arx"))
  | (with_reducible refine q_cmp (fun c => ?_) (fun c => ?_))
  | ((with_reducible refine q_I ?c ?_); (case c => walk_at "ar"))
  | with_reducible refine q_I0 ?_
  | with_reducible refine q_U ?_
  | ((with_reducible refine q_ixT (xs := ?xs) (v := ?v) ?h ?a ?_); (case h => walk_at "sq"); (case a => exact rfl))
  | ((with_reducible refine q_lenL (xs := ?xs) ?h ?_); (case h => walk_at "sq"))
  | ((with_reducible refine q_lenT (xs := ?xs) ?h ?_); (case h => walk_at "sq"))
  | with_reducible refine q_isiBI ?_
  | with_reducible refine q_isiBN ?_
  | ((with_reducible refine q_inTY (xs := ?xs) ?h ?e ?_); (case h => walk_at "sq"); (case e => first | decide +kernel | rfl))
  | ((with_reducible refine q_inTN (xs := ?xs) ?h ?e ?_); (case h => walk_at "sq"); (case e => first | decide +kernel | rfl))
  | ((with_reducible refine q_inLY (xs := ?xs) ?h ?e ?_); (case h => walk_at "sq"); (case e => first | decide +kernel | rfl))
  | ((with_reducible refine q_inLN (xs := ?xs) ?h ?e ?_); (case h => walk_at "sq"); (case e => first | decide +kernel | rfl))
  | with_reducible refine q_int ?_
  | with_reducible refine q_intT ?_
  | with_reducible refine q_intF ?_
  | with_reducible refine q_abs ?_
  | with_reducible refine r_yes ?_
  | with_reducible refine r_lc ?_
  | (with_reducible refine r_disp ?_; walk_at "i_disp")
  | with_reducible refine r_pcons ?_
  | with_reducible refine r_pnil ?_
  | with_reducible refine r_for ?_
  | with_reducible refine r_iL ?_
  | with_reducible refine r_iT ?_
  | with_reducible refine r_iS ?_
  | with_reducible refine q_iS ?_
  | with_reducible refine r_rng1 ?_
  | with_reducible refine r_rng2 ?_
  | ((with_reducible refine q_iL (xs := ?xs) ?h ?_); (case h => walk_at "sq"))
  | ((with_reducible refine q_iT (xs := ?xs) ?h ?_); (case h => walk_at "sq"))
  | ((with_reducible refine q_rng1 ?h ?_); (case h => walk_at "ar"))
  | ((with_reducible refine q_rng2 ?h ?_); (case h => refine And.intro ?_ (And.intro ?_ (And.intro ?_ ?_)) <;> omega))
  | walk_at "q"
  | with_reducible refine q_isNY rfl ?_
  | ((with_reducible refine q_isNN ?h ?_); (case h => intro z; cases z))
  | with_reducible refine q_notNY rfl ?_
  | ((with_reducible refine q_notNN ?h ?_); (case h => intro z; cases z))
  | ((with_reducible refine q_ixL (xs := ?xs) (v := ?v) ?h ?a ?_); (case h => walk_at "sq"); (case a => first | exact rfl | exact at0 | assumption | walk_at "ax"))
  | walk_at "new"
  | walk_at "own"
  | fail)
local macro_rules | `(tactic| walk_at "own") => `(tactic| fail)
local macro_rules | `(tactic| walk_at "ne") => `(tactic| fail)
local macro_rules | `(tactic| walk_at "ax") => `(tactic| fail)
local macro_rules | `(tactic| walk_at "ex") => `(tactic| first
  | assumption
  | exact Ex.refl _
  | (refine Ex.trans ?_ (by assumption); walk_at "ex"))
/-! ### the text's constants -/
def OPN : List Str := ["push", "load", "store", "loadx", "storex", "check", "neg", "not", "calc", "jump", "jzero", "give", "take", "either", "fork", "end", "stop"]
def OPS : List Str := ["+", "-", "*", "/", "mod", "and", "or", "==", "!=", "<", "<="]
/-- the plain ones and their numbers -/
def PLN : List (Str × Int) := [("push", 1), ("load", 1), ("store", 1), ("loadx", 2), ("storex", 2), ("check", 1), ("neg", 0), ("not", 0), ("jump", 1), ("jzero", 1), ("give", 1), ("take", 1), ("end", 0), ("stop", 0)]
/-- a tuple of texts that the top made -/
def TupK (K : PySem.W.Frag) (a : Addr) (xs : List Str) : Prop := ∃ (o : Obj) (its : Array Value) (n : Nat), K.lookup a = some o ∧ o.cls = .type "tuple" ∧ o.dict = none ∧ o.data = .seq its n ∧ its.size ≤ sizeLine ∧ Vals (xs.map V.str) its.toList
theorem TupK.sq {K : PySem.W.Frag} {a : Addr} {xs : List Str} {H : Hp} (h : TupK K a xs) : SqT K H a (xs.map V.str) := by
  obtain ⟨o, its, n, h1, h2, h3, h4, h5, h6⟩ := h
  exact Or.inr ⟨o, its, n, h1, h2, h4, h5, h6⟩
theorem TupK.ty {K : PySem.W.Frag} {a : Addr} {xs : List Str} {H : Hp} (h : TupK K a xs) : tyV K "tuple" (.ref a) H := by
  obtain ⟨o, its, n, h1, h2, h3, h4, h5, h6⟩ := h
  exact Or.inr (Or.inl ⟨rfl, o, h1, h2, h3⟩)
structure Glo (K : PySem.W.Frag) (w : World) (mg : Str → Option Value) : Prop where
  n_len : mg "len" = none
  n_int : mg "int" = none
  n_abs : mg "abs" = none
  n_range : mg "range" = none
  n_list : mg "list" = none
  n_tuple : mg "tuple" = none
  n_isinstance : mg "isinstance" = none
  c_NAMES : ∃ a, mg "NAMES" = some (.ref a) ∧ TupK K a OPN
  c_OPERATORS : ∃ a, mg "OPERATORS" = some (.ref a) ∧ TupK K a OPS
  c_NUMBERS : ∃ a, mg "NUMBERS" = some (.ref a) ∧ ∀ x n, (x, n) ∈ PLN → KDct K w a x (.int n)
  c_ROW : ∃ t, mg "ROW" = some (.int 3 t)
local macro_rules | `(tactic| walk_at "lev") => `(tactic| first | decide | omega)
variable {P : Program} {w : World} {K : PySem.W.Frag} {mg : Str → Option Value} {base : Heap}
abbrev s__law_state : Stmt := topS 15
theorem sc__law_state : FnScope ["script", "seed", "cell"] ["script"] (defScope s__law_state) := ⟨rfl, rfl, rfl, by decide +kernel, rfl, by decide +kernel, by decide +kernel⟩
abbrev p__law_state : List Str := ["script"]
abbrev s__law_draw : Stmt := topS 16
theorem sc__law_draw : FnScope ["state", "many", "cells", "mixed", "number"] ["state", "many"] (defScope s__law_draw) := ⟨rfl, rfl, rfl, by decide +kernel, rfl, by decide +kernel, by decide +kernel⟩
abbrev p__law_draw : List Str := ["state", "many"]
abbrev s__law_pick : Stmt := topS 17
theorem sc__law_pick : FnScope ["state", "row"] ["state", "row"] (defScope s__law_pick) := ⟨rfl, rfl, rfl, by decide +kernel, rfl, by decide +kernel, by decide +kernel⟩
abbrev p__law_pick : List Str := ["state", "row"]
/-! ### the draws' state -/
structure StOk (st c : Addr) (H : Hp) : Prop where
  ex : ∃ (ns : List Int) (s : Int), H st = some (.lst [.ref c, .int s]) ∧ H c = some (.lst (ns.map V.int)) ∧ (∀ n ∈ ns, 0 ≤ n) ∧ 0 ≤ s ∧ s < 2147483648
  ne : c ≠ st
theorem st_ex {st c : Addr} {H H' : Hp} (e : Ex H H') (h : StOk st c H) : StOk st c H' := by
  obtain ⟨⟨ns, s, a, b, d⟩, n⟩ := h
  exact ⟨⟨ns, s, e _ _ a, e _ _ b, d⟩, n⟩
/-- a fresh address is neither -/
theorem st_fresh {st c p : Addr} {H : Hp} (h : StOk st c H) (hp : H p = none) : p ∉ [st, c] := by
  obtain ⟨⟨ns, s, a, b, d⟩, n⟩ := h
  simp only [List.mem_cons, List.not_mem_nil, or_false, not_or]
  exact ⟨(ne_of_none a hp).symm, (ne_of_none b hp).symm⟩
local macro_rules | `(tactic| walk_at "st_ok") => `(tactic| first
  | assumption
  | (refine st_ex (by assumption) ?_; walk_at "st_ok"))
local macro_rules | `(tactic| walk_at "nin") => `(tactic| first
  | assumption
  | (refine st_fresh (H := ?H) ?a ?b; (case b => assumption); (case a => walk_at "st_ok")))
local macro_rules | `(tactic| walk_at "kp") => `(tactic| first
  | assumption
  | exact Kp.refl _
  | (refine Kp.trans ?_ (by assumption); walk_at "kp")
  | (refine Kp.trans ?_ (Ex.kp (by assumption)); walk_at "kp"))
theorem int_mod (a : Int) {m : Int} (h : 0 < m) : 0 ≤ a % m ∧ a % m < m := ⟨Int.emod_nonneg _ (by omega), Int.emod_lt_of_pos _ h⟩
def sp_state (K : PySem.W.Frag) : Sp := fun vs H Q _ => ∃ (a : Addr) (ns : List Int), vs = [.ref a] ∧ SqL K H a (ns.map V.int) ∧ ns.length ≤ 63 ∧ ∀ st c H', Ex H H' → H st = none → H c = none → StOk st c H' → Q (.ref st) H'
theorem ex_sql {H H' : Hp} {a : Addr} {xs : List V} (e : Ex H H') (h : SqL K H a xs) : SqL K H' a xs := e.same.seq h
theorem abs_nn (i : Int) : 0 ≤ (if i < 0 then -i else i) := by split <;> omega
theorem ok_state (T : Glo K w mg) (D : Dn K mg "_law_state" s__law_state p__law_state) : Cal P w K mg base "_law_state" 1 p__law_state (sp_state K) := by
  refine D.ok sc__law_state (fun vs H Q E h => ?_) (fun f cdv A outer s H vs Q E hr h => ?_)
  · obtain ⟨_, _, rfl, _⟩ := h
    rfl
  obtain ⟨a, ns, rfl, hs, hl, q⟩ := h
  refine ⟨_, (pss_cons (ps_set (i := 1) sc__law_state.nd rfl (by first | exact Or.inl rfl | exact Or.inr rfl) pe_int) (pss_cons (ps_for PassesOwn.never rfl (pi_list (pv 0)) (pg_name (i := 2) sc__law_state.nd rfl (by first | exact Or.inl rfl | exact Or.inr rfl)) (pss_one (ps_set (i := 1) sc__law_state.nd rfl (by first | exact Or.inl rfl | exact Or.inr rfl) (pe_op op_mod (pe_callTy call_intA rfl T.n_int (by decide +kernel) (pa_cons (pe_op op_addA (pe_op op_mul (pv 1) pe_int) (pv 2)) pa_nil)) pe_int)))) (pss_one (ps_ret (pe_lst (pa_cons (pe_lc (own := [("cell", 2)]) (tt := tYes) rfl sc__law_state.nd (pi_list (pv 0)) (blkOk_by (N := ["script", "seed", "cell"]) (sc := defScope s__law_state) (by decide +kernel)) (fun _ _ _ _ _ => (pg_name (i := 2) sc__law_state.nd rfl (by first | exact Or.inl rfl | exact Or.inr rfl))) (fun _ _ _ _ _ => pts_nil) (fun _ _ _ _ _ => (pe_callB call_absA rfl T.n_abs (by decide +kernel) (pa_cons (pv 2) pa_nil)))) (pa_cons (pe_op op_addA (pv 1) pe_int) pa_nil))))))), ?_⟩
  try dsimp only [cxOf, Cx.nox]
  repeat' walk_at "st"
  refine w_list (xs := ns.map V.int) (fun i σ H' => H' = H ∧ ∃ (z : Int) (y : Option V), σ = [some (.ref a), some (.int z), y] ∧ 0 ≤ z ∧ z < 1000003) ?_ ?_ ?_ ?_
  · exact ⟨rfl, 7, none, rfl, by decide, by decide⟩
  · rintro i σ H' _ ⟨rfl, _⟩
    exact hs
  · rintro i x σ H' hx ⟨rfl, z, y, rfl, z0, z1⟩
    rw [List.getElem?_map] at hx
    obtain ⟨n, hn, rfl⟩ := Option.map_eq_some_iff.mp hx
    repeat' walk_at "st"
    refine ⟨rfl, _, some (.int n), rfl, ?_⟩
    exact int_mod _ (by decide)
  · rintro σ H' ⟨rfl, z, y, rfl, z0, z1⟩
    repeat' walk_at "st"
    intro L hL
    refine lc_list (xs := ns.map V.int) (fun i H2 => Ex H' H2 ∧ H2 L = some (.lst ((ns.take i).map fun n => V.int (if n < 0 then -n else n)))) ?_ ?_ ?_ ?_
    · exact ⟨Ex.mk hL rfl, upd_same⟩
    · rintro i H2 _ ⟨e, _⟩
      exact ex_sql e hs
    · rintro i x H2 hx ⟨e, h2⟩
      rw [List.getElem?_map] at hx
      obtain ⟨n, hn, rfl⟩ := Option.map_eq_some_iff.mp hx
      refine ⟨rfl, ?_⟩
      repeat' walk_at "st"
      refine ⟨_, h2, sl1000' ?_, ?_, ?_⟩
      · rw [List.length_map, List.length_take]
        omega
      · intro b u hb
        rw [upd_ne (ne_of_none hb hL)]
        exact e _ _ hb
      · rw [upd_same, List.take_add_one, hn, List.map_append]
        rfl
    · rintro H2 ⟨e, h2⟩
      repeat' walk_at "st"
      rw [List.take_of_length_le (by rw [List.length_map]; exact Nat.le_refl _)] at h2
      refine q p L _ (e.trans ke) (free_back e hp) hL ⟨⟨ns.map fun n => (if n < 0 then -n else n), z + 1, hn, ?_, ?_, by omega, by omega⟩, ?_⟩
      · rw [List.map_map]
        exact ke _ _ h2
      · intro n hn
        obtain ⟨m, _, rfl⟩ := List.mem_map.mp hn
        exact abs_nn m
      · exact ne_of_none h2 hp
def sp_draw : Sp := fun vs H Q _ => ∃ (st c : Addr) (many : Int), vs = [.ref st, .int many] ∧ StOk st c H ∧ 0 < many ∧ many < 1073741824 ∧ ∀ (n : Int) (H' : Hp), 0 ≤ n → n < many → Kp [st, c] H H' → StOk st c H' → Q (.int n) H'
theorem ok_draw (T : Glo K w mg) (D : Dn K mg "_law_draw" s__law_draw p__law_draw) : Cal P w K mg base "_law_draw" 1 p__law_draw sp_draw := by
  refine D.ok sc__law_draw (fun vs H Q E h => ?_) (fun f cdv A outer s H vs Q E hr h => ?_)
  · obtain ⟨_, _, _, rfl, _⟩ := h
    rfl
  obtain ⟨st, c, many, rfl, ⟨⟨ns, z, hst, hc, hn, z0, z1⟩, hne⟩, m0, m1, q⟩ := h
  refine ⟨_, (pss_cons (ps_set (i := 2) sc__law_draw.nd rfl (by first | exact Or.inl rfl | exact Or.inr rfl) (pe_ix ix_seq (pv 0) pe_int (fun _ _ => rfl))) (pss_cons (ps_while PassesOwn.never (PW.pt (pw_and (pt_cmpR op_gt (pe_callB call_lenA rfl T.n_len (by decide +kernel) (pa_cons (pv 2) pa_nil)) pe_int (nomark _)) (pw_and1 (pt_cmpR (op_eqA (hu64 hr)) (pe_ix ix_seq (pv 2) pe_int (fun _ _ => rfl)) pe_int (nomark _))))) (pss_one (ps_expr (pe_bm PySem.F.plainAttrs_list PySem.F.slot_list_pop PySem.F.type_list_pop mt_popAt (pv 2) (pa_cons pe_int pa_nil))))) (pss_cons (ps_if (pt_cmpR op_gt (pe_callB call_lenA rfl T.n_len (by decide +kernel) (pa_cons (pv 2) pa_nil)) pe_int (nomark _)) (pss_cons (ps_set (i := 4) sc__law_draw.nd rfl (by first | exact Or.inl rfl | exact Or.inr rfl) (pe_ix ix_seq (pv 2) pe_int (fun _ _ => rfl))) (pss_cons (ps_asg (pe_op op_fdiv (pv 4) (pv 1)) (pg_sub (pv 2) pe_int set_list)) (pss_one (ps_ret (pe_op op_mod (pe_callTy call_intA rfl T.n_int (by decide +kernel) (pa_cons (pv 4) pa_nil)) (pv 1)))))) pss_nil) (pss_cons (ps_set (i := 3) sc__law_draw.nd rfl (by first | exact Or.inl rfl | exact Or.inr rfl) (pe_op op_mod (pe_callTy call_intA rfl T.n_int (by decide +kernel) (pa_cons (pe_op op_addA (pe_op op_mul (pe_ix ix_seq (pv 0) pe_int (fun _ _ => rfl)) pe_int) pe_int) pa_nil)) pe_int)) (pss_cons (ps_asg (pv 3) (pg_sub (pv 0) pe_int set_list)) (pss_one (ps_ret (pe_op op_mod (pe_callTy call_intA rfl T.n_int (by decide +kernel) (pa_cons (pe_op op_fdiv (pv 3) pe_int) pa_nil)) (pv 1))))))))), ?_⟩
  try dsimp only [cxOf, Cx.nox]
  repeat' walk_at "st"
  refine w_while (fun m σ H' => ∃ ns' : List Int, m = ns'.length ∧ σ = [some (.ref st), some (.int many), some (.ref c), none, none] ∧ H' st = some (.lst [.ref c, .int z]) ∧ H' c = some (.lst (ns'.map V.int)) ∧ (∀ n ∈ ns', 0 ≤ n) ∧ Kp [st, c] H H') ns.length ⟨ns, rfl, rfl, hst, hc, hn, Kp.refl _⟩ ?_ ?_
  · rintro m σ H' ⟨ns', rfl, rfl, h1, h2, h3, h4⟩
    have mc : c ∈ [st, c] := by simp
    have mst : st ∈ [st, c] := by simp
    have ht : ∀ xs, H' st ≠ some (.tup xs) := fun xs e => by rw [h1] at e; cases e
    have hu : ∀ xs, H' c ≠ some (.tup xs) := fun xs e => by rw [h2] at e; cases e
    cases ns' with
    | nil =>
      repeat' walk_at "st"
      refine q_setL (j := 1) h1 rfl ?_
      generalize hq : upd H' st _ = H2
      repeat' walk_at "st"
      have hz := int_mod (z * 48271 + 12345) (m := 2147483647) (by decide)
      refine q _ H2 (int_mod _ m0).1 (int_mod _ m0).2 (h4.trans (Kp.set mst ht hq)) ⟨⟨[], _, at_new hq, ?_, h3, hz.1, Int.lt_trans hz.2 (by decide)⟩, hne⟩
      rw [← hq, upd_ne hne]
      exact h2
    | cons n r =>
      rw [List.map_cons] at h2
      have hn0 := h3 n (List.mem_cons_self ..)
      have hr0 : ∀ n ∈ r, 0 ≤ n := fun k hk => h3 k (List.mem_cons_of_mem _ hk)
      repeat' walk_at "st"
      · refine q_tyL h2 ?_
        repeat' walk_at "st"
        refine q_pop0 h2 ?_
        refine ⟨r.length, Nat.lt_succ_self _, r, rfl, rfl, ?_, upd_same, hr0, h4.trans (Kp.set mc hu rfl)⟩
        rw [upd_ne (Ne.symm hne)]
        exact h1
      · refine q_setL (j := 0) h2 ix0 ?_
        generalize hq : upd H' c _ = H2
        repeat' walk_at "st"
        refine q _ H2 (int_mod _ m0).1 (int_mod _ m0).2 (h4.trans (Kp.set mc hu hq)) ⟨⟨n / many :: r, z, ?_, at_new hq, ?_, z0, z1⟩, hne⟩
        · rw [← hq, upd_ne (Ne.symm hne)]
          exact h1
        · intro k hk
          rcases List.mem_cons.mp hk with rfl | hk
          · exact Int.ediv_nonneg hn0 (by omega)
          · exact hr0 _ hk
  · intro σ H Q Q' hQ h
    exact mo_and (mo_test (mo_op mo_I0 (mo_cb mo_lenA (mo_cons mo_var mo_nil)) mo_c)) (mo_test (mo_op mo_eqA (mo_op mo_ix mo_var mo_c) mo_c)) _ _ _ _ hQ h
theorem c_draw {st c : Addr} {many : Int} {H : Hp} {Q : VK} {E : XK} (h1 : StOk st c H) (h2 : 0 < many ∧ many < 1073741824) (q : ∀ (n : Int) (H' : Hp), 0 ≤ n → n < many → Kp [st, c] H H' → StOk st c H' → Q (.int n) H') :
    sp_draw [.ref st, .int many] H Q E := ⟨st, c, many, rfl, h1, h2.1, h2.2, q⟩
set_option hygiene false in
local macro_rules | `(tactic| walk_at "i_c_draw") => `(tactic| intro dn Hn n0 n1 ke so)
local macro_rules | `(tactic| walk_at "own") => `(tactic| (refine c_draw (c := ?c) ?a ?b ?_; (case a => walk_at "st_ok"); (case b => walk_at "arx2"); walk_at "i_c_draw"))
local macro_rules | `(tactic| walk_at "arx2") => `(tactic| first
  | (refine And.intro ?_ ?_ <;> omega)
  | (simp only [List.length_cons, List.length_nil, List.length_map]; refine And.intro ?_ ?_ <;> omega)
  | (refine And.intro ?_ ?_ <;> decide +kernel))
def sp_pick (K : PySem.W.Frag) : Sp := fun vs H Q _ => ∃ (st c a : Addr) (xs : List V), vs = [.ref st, .ref a] ∧ StOk st c H ∧ H a = some (.lst xs) ∧ a ∉ [st, c] ∧ 0 < xs.length ∧ xs.length < 1000000 ∧ ∀ (i : Nat) (v : V) (H' : Hp), xs[i]? = some v → Kp [st, c] H H' → StOk st c H' → Q v H'
theorem ok_pick (T : Glo K w mg) (D : Dn K mg "_law_pick" s__law_pick p__law_pick) (G__law_draw : Cal P w K mg base "_law_draw" 1 p__law_draw sp_draw) : Cal P w K mg base "_law_pick" 2 p__law_pick (sp_pick K) := by
  refine D.ok sc__law_pick (fun vs H Q E h => ?_) (fun f cdv A outer s H vs Q E hr h => ?_)
  · obtain ⟨_, _, _, _, rfl, _⟩ := h
    rfl
  obtain ⟨st, c, a, xs, rfl, so, ha, hn, l0, l1, q⟩ := h
  refine ⟨_, (pss_one (ps_ret (pe_ix ix_seq (pv 1) (pe_cal G__law_draw (hr.mono (by walk_at "lev")) rfl (pa_cons (pv 0) (pa_cons (pe_callB call_lenA rfl T.n_len (by decide +kernel) (pa_cons (pv 1) pa_nil)) pa_nil))) (fun _ _ => rfl)))), ?_⟩
  try dsimp only [cxOf, Cx.nox]
  repeat' walk_at "st"
  obtain ⟨v, e1, e2⟩ := at_i (n := dn) n0 n1
  exact q_ixL (sql (ke.out _ _ hn ha)) e2 (q _ v Hn e1 ke so)
theorem c_pick {st c a : Addr} {xs : List V} {H : Hp} {Q : VK} {E : XK} (h1 : StOk st c H) (h2 : H a = some (.lst xs)) (h3 : a ∉ [st, c]) (h4 : 0 < xs.length ∧ xs.length < 1000000) (q : ∀ (i : Nat) (v : V) (H' : Hp), xs[i]? = some v → Kp [st, c] H H' → StOk st c H' → Q v H') :
    sp_pick K [.ref st, .ref a] H Q E := ⟨st, c, a, xs, rfl, h1, h2, h3, h4.1, h4.2, q⟩
set_option hygiene false in
local macro_rules | `(tactic| walk_at "i_c_pick") => `(tactic| intro j v Hn ej ke so)
local macro_rules | `(tactic| walk_at "own") => `(tactic| (refine c_pick (c := ?c) (xs := ?xs) ?a ?b ?e ?d ?_; (case b => walk_at "lift"); (case a => walk_at "st_ok"); (case e => walk_at "nin"); (case d => walk_at "arx2"); walk_at "i_c_pick"))
/-! ### own classes -/
section
variable (P : Program) (w : World) (K : PySem.W.Frag) (mg : Str → Option Value) (base : Heap)
/-- a method as it stands behind the top -/
def DnM (C : Addr) (m q : Str) (st : Stmt) (ps : List Str) : Prop := ∃ f fd, Cls K C ∧ Meth K C m f ∧ Fun K m q st f fd ∧ Binds K fd ps []
/-- a class with its __init__ -/
def DnI (x q : Str) (C : Addr) (st : Stmt) (ps : List Str) : Prop := ∃ f fd, Mk K C f ∧ Fun K "__init__" q st f fd ∧ mg x = some (.ref C) ∧ Binds K fd ps []
def MetC (C : Addr) (m : Str) (k : Nat) (ps : List Str) (sp : Sp) : Prop := ∃ f fd, Cls K C ∧ Meth K C m f ∧ FnOk P w K mg base CX0 k f fd ps sp ∧ Binds K fd ps []
def MakC (x : Str) (C : Addr) (k : Nat) (ps : List Str) (sp : Sp) : Prop := ∃ f fd, Mk K C f ∧ FnOk P w K mg base CX0 k f fd ps sp ∧ mg x = some (.ref C) ∧ Binds K fd ps []
end
section
variable {P : Program} {w : World} {K : PySem.W.Frag} {mg : Str → Option Value} {base : Heap}
theorem DnM.ok {C : Addr} {m q : Str} {st : Stmt} {N ps : List Str} {k : Nat} {sp : Sp} (D : DnM K C m q st ps) (S : FnScope N ps (defScope st)) (len : ∀ vs H Q E, sp vs H Q E → vs.length = ps.length)
    (hbody : ∀ (f : Addr) (cdv : Value) (A : Around) (outer : List Env) (s : Shared) (H : Hp) (vs : List V) (Q : VK) (E : XK), Room k (A.deeper (PyProof.Rows.envOfC q (defScope st) s.heap.objs.size f cdv)) → sp vs H Q E →
      ∃ t, PSs (cxOf CX0 P w K mg base N q (defScope st) f cdv A outer s H E).nox (defBody st) t ∧ t { nx := fun _ H' => Q .non H', rt := Q } (start N vs) H) : MetC P w K mg base C m (k + 1) ps sp := by
  obtain ⟨f, fd, c, me, F, b⟩ := D
  exact ⟨f, fd, c, me, F.ok S len (hbody f), b⟩
theorem DnI.ok {x q : Str} {C : Addr} {st : Stmt} {N ps : List Str} {k : Nat} {sp : Sp} (D : DnI K mg x q C st ps) (S : FnScope N ps (defScope st)) (len : ∀ vs H Q E, sp vs H Q E → vs.length = ps.length)
    (hbody : ∀ (f : Addr) (cdv : Value) (A : Around) (outer : List Env) (s : Shared) (H : Hp) (vs : List V) (Q : VK) (E : XK), Room k (A.deeper (PyProof.Rows.envOfC q (defScope st) s.heap.objs.size f cdv)) → sp vs H Q E →
      ∃ t, PSs (cxOf CX0 P w K mg base N q (defScope st) f cdv A outer s H E).nox (defBody st) t ∧ t { nx := fun _ H' => Q .non H', rt := Q } (start N vs) H) : MakC P w K mg base x C (k + 1) ps sp := by
  obtain ⟨f, fd, mk, F, m, b⟩ := D
  exact ⟨f, fd, mk, F.ok S len (hbody f), m, b⟩
theorem pe_mtC {X : Cx} {C : Addr} {m : Str} {k : Nat} {ps : List Str} {sp : Sp} {o e : Expr} {es : List Expr} {ta : TE} {t : TA} {pos apos : Pos} {pl : Sem Bool} (G : MetC X.prog X.w X.K X.mg X.base C m k ps sp) (hr : Room k X.A) (he : PE X o ta) (ha : PA X (e :: es) t)
    (hst : starEach (e :: es) X.env = (false, eval e X.env) :: starEach es X.env := by rfl) (hpl : (backTo pos (starEach es X.env)).any (·.1) = false := by rfl)
    (ht : eval (.Call (.Attribute o m apos) (e :: es) [] pos) X.env = (do
      let ov ← eval o X.env
      standAt apos.atName
      let (f, first) ← holding [ov] (getMethod ov m pl)
      callWith pos f first (backTo pos (starEach (e :: es) X.env)) (backToKw pos (keywordEach [] X.env))) := by rfl) :
    PE X (.Call (.Attribute o m apos) (e :: es) [] pos) (tMeth C m sp [] E0 ta t) := by
  obtain ⟨f, fd, c, me, F, b⟩ := G
  exact pe_meth (pl := pl) he c me F hr b .nil pass0 ha hst hpl ht
theorem pe_mtC0 {X : Cx} {C : Addr} {m : Str} {k : Nat} {ps : List Str} {sp : Sp} {o : Expr} {ta : TE} {pos apos : Pos} {pl : Sem Bool} (G : MetC X.prog X.w X.K X.mg X.base C m k ps sp) (hr : Room k X.A) (he : PE X o ta)
    (ht : eval (.Call (.Attribute o m apos) [] [] pos) X.env = (do
      let ov ← eval o X.env
      standAt apos.atName
      let (f, first) ← holding [ov] (getMethod ov m pl)
      callWith pos f first (backTo pos (starEach [] X.env)) (backToKw pos (keywordEach [] X.env))) := by rfl) :
    PE X (.Call (.Attribute o m apos) [] [] pos) (tMeth C m sp [] E0 ta tNil) := by
  obtain ⟨f, fd, c, me, F, b⟩ := G
  exact pe_meth0 (pl := pl) he c me F hr b .nil pass0 ht
theorem pe_mkC {X : Cx} {x : Str} {C : Addr} {k : Nat} {ps : List Str} {sp : Sp} {e : Expr} {es : List Expr} {t : TA} {p pos : Pos} (G : MakC X.prog X.w X.K X.mg X.base x C k ps sp) (hr : Room (k + 1) X.A) (hg : Gl X x) (ha : PA X (e :: es) t)
    (hdb : (x == ("__debug__" : Str)) = false := by decide) (he : starEach (e :: es) X.env = (false, eval e X.env) :: starEach es X.env := by rfl) (hpl : (backTo pos (starEach es X.env)).any (·.1) = false := by rfl) : PE X (.Call (.Name x p) (e :: es) [] pos) (tMake C sp [] E0 t) := by
  obtain ⟨f, fd, mk, F, m, b⟩ := G
  exact pe_make mk F hr hg m b .nil pass0 ha hdb he hpl
end
section
variable {K : PySem.W.Frag} {σ : L2.St} {H : Hp} {Q : VK} {v x y : V} {te tb : TE} {tr : TA} {C : Addr} {f : Str} {nx bk ct : L2.St → Hp → Prop} {rt : VK}
def fldK (K : PySem.W.Frag) (f : Str) (Q : VK) (x : V) (H : Hp) : Prop := ∃ a C dx fs v, x = .ref a ∧ H a = some (.ins C dx fs) ∧ Cls K C ∧ NoAttr K C f ∧ fs.lookup f = some v ∧ Q v H
theorem r_fld (q : te σ H fun x H1 => fldK K f Q x H1) : tFld K te f σ H Q := q
theorem q_fld {a dx : Addr} {fs : List (Str × V)} (h : H a = some (.ins C dx fs)) (c : Cls K C) (n : NoAttr K C f) (l : fs.lookup f = some v) (q : Q v H) : fldK K f Q (.ref a) H := ⟨a, C, dx, fs, v, rfl, h, c, n, l, q⟩
def metK (C : Addr) (m : Str) (sp : Sp) (tr : TA) (σ : L2.St) (Q : VK) (x : V) (H : Hp) : Prop := ∃ a dx fs, x = .ref a ∧ H a = some (.ins C dx fs) ∧ fs.lookup m = none ∧ tr σ H fun vs H2 => sp (x :: (vs ++ [])) H2 Q E0
theorem r_meth {m : Str} {sp : Sp} (q : te σ H fun x H1 => metK C m sp tr σ Q x H1) : tMeth C m sp [] E0 te tr σ H Q := q
theorem q_meth {m : Str} {sp : Sp} {a dx : Addr} {fs : List (Str × V)} (h : H a = some (.ins C dx fs)) (l : fs.lookup m = none) (q : tr σ H fun vs H2 => sp (.ref a :: vs) H2 Q E0) : metK C m sp tr σ Q (.ref a) H := by
  refine ⟨a, dx, fs, rfl, h, l, ?_⟩
  have e : (fun (vs : List V) (H2 : Hp) => sp (.ref a :: (vs ++ [])) H2 Q E0) = fun vs H2 => sp (.ref a :: vs) H2 Q E0 := by
    funext vs H2
    rw [List.append_nil]
  rw [e]
  exact q
def sfldK (K : PySem.W.Frag) (f : Str) (N : Hp → Prop) (y x : V) (H : Hp) : Prop := ∃ a C dx fs, x = .ref a ∧ H a = some (.ins C dx fs) ∧ Cls K C ∧ NoAttr K C f ∧ fs.length < 1000 ∧ N (upd H a (.ins C dx (putF f y fs)))
theorem r_sfld (q : tb σ H fun y H1 => te σ H1 fun x H2 => sfldK K f (nx σ) y x H2) : sFld K te tb f ⟨nx, rt, bk, ct⟩ σ H := q
theorem q_sfld {N : Hp → Prop} {a dx : Addr} {fs fs' : List (Str × V)} (h : H a = some (.ins C dx fs)) (c : Cls K C) (n : NoAttr K C f) (l : fs.length < 1000) (e : putF f y fs = fs') (q : N (upd H a (.ins C dx fs'))) : sfldK K f N y (.ref a) H := ⟨a, C, dx, fs, rfl, h, c, n, l, by rw [e]; exact q⟩
def afldK (K : PySem.W.Frag) (f : Str) (tb : TE) (rd : V → V → Hp → VK → Prop) (nx : L2.St → Hp → Prop) (σ : L2.St) (x : V) (H1 : Hp) : Prop := ∃ a C dx fs v, x = .ref a ∧ H1 a = some (.ins C dx fs) ∧ Cls K C ∧ NoAttr K C f ∧ fs.lookup f = some v ∧
  tb σ H1 fun y H2 => rd v y H2 fun z H3 => ∃ dx' fs', H3 a = some (.ins C dx' fs') ∧ fs'.length < 1000 ∧ nx σ (upd H3 a (.ins C dx' (putF f z fs')))
theorem r_afld {rd : V → V → Hp → VK → Prop} (q : te σ H fun x H1 => afldK K f tb rd nx σ x H1) : sFldAug K te tb rd f ⟨nx, rt, bk, ct⟩ σ H := q
theorem q_afld {rd : V → V → Hp → VK → Prop} {a dx : Addr} {fs : List (Str × V)} (h : H a = some (.ins C dx fs)) (c : Cls K C) (n : NoAttr K C f) (l : fs.lookup f = some v)
    (q : tb σ H fun y H2 => rd v y H2 fun z H3 => ∃ dx' fs', H3 a = some (.ins C dx' fs') ∧ fs'.length < 1000 ∧ nx σ (upd H3 a (.ins C dx' (putF f z fs')))) : afldK K f tb rd nx σ (.ref a) H := ⟨a, C, dx, fs, v, rfl, h, c, n, l, q⟩
def makK (C : Addr) (sp : Sp) (Q : VK) (vs : List V) (H : Hp) : Prop := ∀ x dx, H x = none → H dx = none → dx ≠ x → sp (.ref x :: vs) (upd (upd H dx (.own x)) x (.ins C dx [])) (fun v H2 => v = .non ∧ Q (.ref x) H2) E0
theorem r_make {sp : Sp} (q : tr σ H fun vs H1 => makK C sp Q vs H1) : tMake C sp [] E0 tr σ H Q := by
  have e : (fun (vs : List V) (H1 : Hp) => ∀ x dx, H1 x = none → H1 dx = none → dx ≠ x → sp (.ref x :: (vs ++ [])) (upd (upd H1 dx (.own x)) x (.ins C dx [])) (fun v H2 => v = .non ∧ Q (.ref x) H2) E0) = fun vs H1 => makK C sp Q vs H1 := by
    funext vs H1
    rw [List.append_nil]
    rfl
  show tr σ H _
  rw [e]
  exact q
theorem q_addF {i j : Int} (q : Q (.int (i + j)) H) : rAdd (.int i) (.int j) H Q := ⟨i, j, rfl, rfl, q⟩
theorem lk_hd {r : List (Str × V)} : List.lookup f ((f, v) :: r) = some v := by simp [List.lookup]
theorem lk_tl {g : Str} {u : V} {r : List (Str × V)} (h : decide (f = g) = false) : List.lookup f ((g, u) :: r) = List.lookup f r := by
  have h' : ¬ f = g := of_decide_eq_false h
  have h2 : (f == g) = false := by simpa using h'
  simp [List.lookup, h2]
theorem lk_tl' {g : Str} {u : V} {r : List (Str × V)} {o : Option V} (h : decide (f = g) = false) (q : List.lookup f r = o) : List.lookup f ((g, u) :: r) = o := (lk_tl h).trans q
theorem put_nil : putF f v [] = [(f, v)] := rfl
theorem put_hd {u : V} {r : List (Str × V)} : putF f v ((f, u) :: r) = (f, v) :: r := by
  show (if f = f then _ else _) = _
  rw [if_pos rfl]
theorem put_tl {g : Str} {u : V} {r r' : List (Str × V)} (h : decide (g = f) = false) (q : putF f v r = r') : putF f v ((g, u) :: r) = (g, u) :: r' := by
  show (if g = f then _ else _) = _
  rw [if_neg (of_decide_eq_false h), q]
end
local macro_rules | `(tactic| walk_at "lk") => `(tactic| first
  | exact lk_hd
  | exact rfl
  | (refine lk_tl' (by decide +kernel) ?_; walk_at "lk"))
local macro_rules | `(tactic| walk_at "put") => `(tactic| first
  | exact put_nil
  | exact put_hd
  | (refine put_tl (by decide +kernel) ?_; walk_at "put"))
local macro_rules | `(tactic| walk_at "cls") => `(tactic| assumption)
local macro_rules | `(tactic| walk_at "own") => `(tactic| first
  | with_reducible refine r_fld ?_
  | with_reducible refine r_make ?_
  | ((with_reducible refine q_fld (C := ?C) (dx := ?dx) (fs := ?fs) (v := ?v) ?h ?c ?n ?l ?_); (case h => walk_at "lift"); (case c => walk_at "cls"); (case n => walk_at "cls"); (case l => walk_at "lk"))
  | with_reducible refine r_meth ?_
  | ((with_reducible refine q_meth (dx := ?dx) (fs := ?fs) ?h ?l ?_); (case h => walk_at "lift"); (case l => walk_at "lk"))
  | with_reducible refine r_sfld ?_
  | with_reducible refine r_afld ?_
  | ((with_reducible refine q_afld (C := ?C) (dx := ?dx) (fs := ?fs) (v := ?v) ?h ?c ?n ?l ?_); (case h => walk_at "lift"); (case c => walk_at "cls"); (case n => walk_at "cls"); (case l => walk_at "lk"))
  | with_reducible refine q_addF ?_)
section
open PySem PySem.AutoSeq1 PyProof.Rows
set_option maxRecDepth 8000 in
theorem ext_tup (l : Addr) (items : Array Value) (n : Nat) (b : Addr) (items2 : Array Value) (n2 : Nat) (d2 : Option Addr) (sl2 : Array (Option Value)) (hs0 : ¬(!items.isEmpty && Builtin.List.listTooLong (items.size + items2.size)) = true) (hs1 : items.size ≤ sizeLine) (hs2 : items.size + items2.size ≤ sizeLine + 1) :
    Meets (Builtin.«list.extend» ⟨[.ref l, .ref b], []⟩) (fun _ R s => s.heap.get? l = some { cls := .type "list", dict := none, data := .seq items n, slots := #[] } ∧ s.heap.get? b = some { cls := .type "tuple", dict := d2, data := .seq items2 n2, slots := sl2 } ∧ R (.ok (.ret Value.none)) { s with heap := s.heap.update l (Obj.mapSeq fun x => x ++ items2), toks := s.toks }) :=
  .of_wp fun prog w A R s h => by
    obtain ⟨hp, g, d, tk, os⟩ := s; obtain ⟨hl, hb, h⟩ := h; have f1 := PySem.AutoSeq1.idx_int; have f2 := PySem.AutoSeq1.sub_tuple_tuple; have f3 := PySem.AutoSeq1.sub_list_list; have f4 := PySem.AutoSeq1.sub_tuple_list; have f5 := PySem.AutoSeq1.sub_list_tuple;
    have hz' : (items ++ items2).size ≤ sizeLine + 1 := by rw [Array.size_append]; exact hs2
    wp_walk using (wpAny_updateSeq hl rfl (hz := hs1) (_hz' := hz')), wpAny_loadPart' hl, wpAny_loadPart' hb; exact ⟨_, rfl, h⟩
section
variable {X : Cx} {K : PySem.W.Frag} {H : Hp} {Q : VK}
/-- xs.extend(ys), ys a list or a tuple -/
def rExtT (K : PySem.W.Frag) : V → List V → Hp → VK → Prop := fun x vs H Q => ∃ l b xs zs, x = .ref l ∧ vs = [.ref b] ∧ H l = some (.lst xs) ∧ SqT K H b zs ∧ xs.length + zs.length ≤ sizeLine ∧ Q .non (upd H l (.lst (xs ++ zs)))
theorem mt_extT : MtM X "list.extend" (rExtT X.K) := by
  intro pins s σ H x vs v us Q I rx rv h
  obtain ⟨l, b, xs, zs, rfl, rfl, hH, hB, hz, q⟩ := h
  cases rx
  obtain ⟨u, rfl, ru⟩ := rv.one
  cases ru
  obtain ⟨z, its, n, r, hl, e⟩ := I.lstM hH
  obtain ⟨its2, r2, ⟨o2, e2, c2, n2, d2⟩, z2⟩ := I.tuple hB
  obtain ⟨cls2, dict2, data2, slots2⟩ := o2
  have c2' : cls2 = .type "tuple" := c2
  have d2' : data2 = .seq its2.toArray n2 := d2
  subst c2'
  subst d2'
  have hl2 := r2.length
  have hsz : its.toArray.size + its2.toArray.size ≤ sizeLine := by rw [List.size_toArray, List.size_toArray]; omega
  have hlong : ¬ (!its.toArray.isEmpty && Builtin.List.listTooLong (its.toArray.size + its2.toArray.size)) = true := by
    rw [notLongL hsz, Bool.and_false]
    exact Bool.false_ne_true
  refine call_meets F.slot_list_extend ⟨_, e, rfl⟩ F.entry_list_extend (F.args_list_extend_2 _ _)
    (ext_tup l its.toArray n b its2.toArray n2 _ _ hlong (by rw [List.size_toArray]; omega) (by omega)) ⟨e, e2, ?_⟩
  refine ⟨.non, _, I.lset (its' := its ++ its2) hH e (by simp) (r.append r2) ?_, rfl, q⟩
  rw [List.length_append]
  omega
end
end
section
open PySem PySem.AutoSeq1 PyProof.Rows
set_option maxRecDepth 8000 in
theorem ext_lst (l : Addr) (items : Array Value) (n : Nat) (b : Addr) (items2 : Array Value) (n2 : Nat) (d2 : Option Addr) (sl2 : Array (Option Value)) (hs0 : ¬(!items.isEmpty && Builtin.List.listTooLong (items.size + items2.size)) = true) (hs1 : items.size ≤ sizeLine) (hs2 : items.size + items2.size ≤ sizeLine + 1) :
    Meets (Builtin.«list.extend» ⟨[.ref l, .ref b], []⟩) (fun _ R s => s.heap.get? l = some { cls := .type "list", dict := none, data := .seq items n, slots := #[] } ∧ s.heap.get? b = some { cls := .type "list", dict := d2, data := .seq items2 n2, slots := sl2 } ∧ R (.ok (.ret Value.none)) { s with heap := s.heap.update l (Obj.mapSeq fun x => x ++ items2), toks := s.toks }) :=
  .of_wp fun prog w A R s h => by
    obtain ⟨hp, g, d, tk, os⟩ := s; obtain ⟨hl, hb, h⟩ := h; have f1 := PySem.AutoSeq1.idx_int; have f2 := PySem.AutoSeq1.sub_tuple_tuple; have f3 := PySem.AutoSeq1.sub_list_list; have f4 := PySem.AutoSeq1.sub_tuple_list; have f5 := PySem.AutoSeq1.sub_list_tuple;
    have hz' : (items ++ items2).size ≤ sizeLine + 1 := by rw [Array.size_append]; exact hs2
    wp_walk using (wpAny_updateSeq hl rfl (hz := hs1) (_hz' := hz')), wpAny_loadPart' hl, wpAny_loadPart' hb; exact ⟨_, rfl, h⟩
section
variable {X : Cx} {K : PySem.W.Frag} {H : Hp} {Q : VK}
def rExtL (K : PySem.W.Frag) : V → List V → Hp → VK → Prop := fun x vs H Q => ∃ l b xs zs, x = .ref l ∧ vs = [.ref b] ∧ H l = some (.lst xs) ∧ SqL K H b zs ∧ xs.length + zs.length ≤ sizeLine ∧ Q .non (upd H l (.lst (xs ++ zs)))
theorem mt_extL : MtM X "list.extend" (rExtL X.K) := by
  intro pins s σ H x vs v us Q I rx rv h
  obtain ⟨l, b, xs, zs, rfl, rfl, hH, hB, hz, q⟩ := h
  cases rx
  obtain ⟨u, rfl, ru⟩ := rv.one
  cases ru
  obtain ⟨z, its, n, r, hl, e⟩ := I.lstM hH
  obtain ⟨its2, r2, ⟨o2, n2, e2, c2, dd2, d2⟩, z2⟩ := I.list hB
  obtain ⟨cls2, dict2, data2, slots2⟩ := o2
  have c2' : cls2 = .type "list" := c2
  have d2' : data2 = .seq its2.toArray n2 := d2
  subst c2'
  subst d2'
  have hl2 := r2.length
  have hsz : its.toArray.size + its2.toArray.size ≤ sizeLine := by rw [List.size_toArray, List.size_toArray]; omega
  have hlong : ¬ (!its.toArray.isEmpty && Builtin.List.listTooLong (its.toArray.size + its2.toArray.size)) = true := by
    rw [notLongL hsz, Bool.and_false]
    exact Bool.false_ne_true
  refine call_meets F.slot_list_extend ⟨_, e, rfl⟩ F.entry_list_extend (F.args_list_extend_2 _ _)
    (ext_lst l its.toArray n b its2.toArray n2 _ _ hlong (by rw [List.size_toArray]; omega) (by omega)) ⟨e, e2, ?_⟩
  refine ⟨.non, _, I.lset (its' := its ++ its2) hH e (by simp) (r.append r2) ?_, rfl, q⟩
  rw [List.length_append]
  omega
def rExtA (K : PySem.W.Frag) : V → List V → Hp → VK → Prop := fun x vs H Q => rExtL K x vs H Q ∨ rExtT K x vs H Q
theorem mt_extA : MtM X "list.extend" (rExtA X.K) := fun pins s σ H x vs v us Q I rx rv h => h.elim (mt_extL pins s σ H x vs v us Q I rx rv) (mt_extT pins s σ H x vs v us Q I rx rv)
end
end
theorem pe_globR {X : Cx} {x : Str} {a : Addr} {pos : Pos} (hg : Gl X x) (hm : X.mg x = some (.ref a)) (hd : (x == ("__debug__" : Str)) = false := by decide) : PE X (.Name x pos) (tC (.ref a)) := pe_glob hg hm rfl hd
theorem at1 {α : Type} {x y : α} {xs : List α} : atI (x :: y :: xs) 1 = some y := atI_nat (j := 1) rfl
local macro_rules | `(tactic| walk_at "at01") => `(tactic| first | exact at0 | exact at1 | assumption)
local macro_rules | `(tactic| walk_at "own") => `(tactic| first
  | ((with_reducible refine q_ixT (xs := ?xs) (v := ?v) ?h ?a ?_); (case h => walk_at "sq"); (case a => walk_at "at01"))
  | ((with_reducible refine q_ixL (xs := ?xs) (v := ?v) ?h ?a ?_); (case h => walk_at "sq"); (case a => walk_at "at01")))
theorem ex_set {H H1 H2 : Hp} {p : Addr} {o : HO} (k : Ex H H1) (hp : H p = none) (e : upd H1 p o = H2) : Ex H H2 := fun a u h => by
  rw [← e, upd_ne (ne_of_none h hp)]
  exact k a u h
theorem q_tyLs {K : PySem.W.Frag} {H : Hp} {p : Addr} {xs : List V} {A : Prop} (h : SqL K H p xs) (q : A) : tyV K "list" (.ref p) H ∧ A := ⟨Or.inl ⟨rfl, xs, h⟩, q⟩
local macro_rules | `(tactic| walk_at "own") => `(tactic| first
  | ((with_reducible refine q_tyLs (xs := ?xs) ?h ?_); (case h => walk_at "sq")))
def rTupA (K : PySem.W.Frag) : List V → Hp → VK → Prop := fun xs H Q => ∃ p ys, xs = [.ref p] ∧ ((SqL K H p ys ∧ ∀ l, H l = none → Q (.ref l) (upd H l (.tup ys))) ∨ (SqT K H p ys ∧ Q (.ref p) H))
theorem call_tupA {X : Cx} : CallR X (.type "tuple") (rTupA X.K) := call_tuple_of
theorem q_tupA {K : PySem.W.Frag} {H : Hp} {Q : VK} {p : Addr} {ys : List V} (h : SqL K H p ys) (q : ∀ l Hn, H l = none → Ex H Hn → Hn l = some (.tup ys) → Q (.ref l) Hn) : rTupA K [.ref p] H Q := ⟨p, ys, rfl, .inl ⟨h, fun l hl => q l _ hl (Ex.mk hl rfl) upd_same⟩⟩
/-! ### instructions as data -/
inductive Ins where
  | op (x : Str) (ns : List Int)
  | cal (k : Nat)
  | alt (rows : List (Int × Int × Int))
  | frk (rows : List (Int × List Int))
def dInts (ns : List Int) : List PyData := ns.map PyData.int
def dRow (r : Int × Int × Int) : PyData := .tuple [.int r.1, .int r.2.1, .int r.2.2]
def dBr (r : Int × List Int) : PyData := .tuple [.int r.1, .list (dInts r.2)]
def Ins.data : Ins → PyData
  | .op x ns => .tuple (.str x :: dInts ns)
  | .cal k => .tuple [.str "calc", .str (OPS.getD k "")]
  | .alt rows => .tuple [.str "either", .list (rows.map dRow)]
  | .frk rows => .tuple [.str "fork", .list (rows.map dBr)]
def eRow (r : Int × Int × Int) : List Int := [r.1, r.2.1, r.2.2]
def eBr (r : Int × List Int) : List Int := r.1 :: (r.2.length : Int) :: r.2
def opix (x : Str) : Nat := OPN.findIdx (fun y => decide (y = x))
def Ins.enc : Ins → List Int
  | .op x ns => (opix x : Int) :: ns
  | .cal k => [8, (k : Int)]
  | .alt rows => 13 :: (rows.length : Int) :: rows.flatMap eRow
  | .frk rows => 14 :: (rows.length : Int) :: rows.flatMap eBr
def Ins.ok : Ins → Prop
  | .op x ns => (x, (ns.length : Int)) ∈ PLN
  | .cal k => k < 11
  | .alt rows => rows.length ≤ 100
  | .frk rows => rows.length ≤ 100 ∧ ∀ r ∈ rows, r.2.length ≤ 100
/-! ### deep data on heaps that grow -/
theorem sqt_ex {K : PySem.W.Frag} {H H' : Hp} {a : Addr} {xs : List V} (e : Ex H H') (h : SqT K H a xs) : SqT K H' a xs := by
  rcases h with h | h
  · rcases h with h | ⟨o, h⟩
    · exact .inl (.inl (e _ _ h))
    · exact .inl (.inr ⟨o, e _ _ h⟩)
  · exact .inr h
mutual
theorem dp_ex {K : PySem.W.Frag} {H H' : Hp} (e : Ex H H') : ∀ {v : V} {d : PyData}, Dp K H v d → Dp K H' v d
  | _, _, .non => .non
  | _, _, .bl b => .bl b
  | _, _, .int i => .int i
  | _, _, .str x => .str x
  | _, _, .lst h t => .lst (e.same.seq h) (dpa_ex e t)
  | _, _, .tup h t => .tup (sqt_ex e h) (dpa_ex e t)
theorem dpa_ex {K : PySem.W.Frag} {H H' : Hp} (e : Ex H H') : ∀ {vs : List V} {ds : List PyData}, DpAll K H vs ds → DpAll K H' vs ds
  | _, _, .nil => .nil
  | _, _, .cons h t => .cons (dp_ex e h) (dpa_ex e t)
end
theorem dpa_len {K : PySem.W.Frag} {H : Hp} : ∀ {vs : List V} {ds : List PyData}, DpAll K H vs ds → vs.length = ds.length
  | _, _, .nil => rfl
  | _, _, .cons _ t => by rw [List.length_cons, List.length_cons, dpa_len t]
theorem dpa_at {K : PySem.W.Frag} {H : Hp} : ∀ {vs : List V} {ds : List PyData} {i : Nat} {v : V}, DpAll K H vs ds → vs[i]? = some v → ∃ d, ds[i]? = some d ∧ Dp K H v d
  | _, _, _, _, .nil, h => by simp at h
  | _, _, 0, _, .cons a t, h => by
    simp at h
    subst h
    exact ⟨_, rfl, a⟩
  | _, _, i + 1, _, .cons a t, h => by
    obtain ⟨d, h1, h2⟩ := dpa_at (i := i) t (by simpa using h)
    exact ⟨d, by simpa using h1, h2⟩
theorem dpa_app {K : PySem.W.Frag} {H : Hp} {vs ws : List V} {ds es : List PyData} (h : DpAll K H vs ds) (h' : DpAll K H ws es) : DpAll K H (vs ++ ws) (ds ++ es) := by
  match vs, ds, h with
  | _, _, .nil => exact h'
  | _, _, .cons a t => exact .cons a (dpa_app t h')
theorem dpa_one {K : PySem.W.Frag} {H : Hp} {v : V} {d : PyData} (h : Dp K H v d) : DpAll K H [v] [d] := .cons h .nil
theorem dp_ints {K : PySem.W.Frag} {H : Hp} : ∀ {vs : List V} {ns : List Int}, DpAll K H vs (dInts ns) → vs = ns.map V.int
  | _, [], .nil => rfl
  | _, n :: r, .cons h t => by
    cases h
    rw [dp_ints t, List.map_cons]
theorem ints_dp {K : PySem.W.Frag} {H : Hp} : ∀ ns : List Int, DpAll K H (ns.map V.int) (dInts ns)
  | [] => .nil
  | n :: r => .cons (.int n) (ints_dp r)
theorem dp_tup {K : PySem.W.Frag} {H : Hp} {v : V} {ds : List PyData} (h : Dp K H v (.tuple ds)) : ∃ a xs, v = .ref a ∧ SqT K H a xs ∧ DpAll K H xs ds := by
  cases h with
  | tup h t => exact ⟨_, _, rfl, h, t⟩
theorem dp_lst {K : PySem.W.Frag} {H : Hp} {v : V} {ds : List PyData} (h : Dp K H v (.list ds)) : ∃ a xs, v = .ref a ∧ SqL K H a xs ∧ DpAll K H xs ds := by
  cases h with
  | lst h t => exact ⟨_, _, rfl, h, t⟩
theorem dp_int {K : PySem.W.Frag} {H : Hp} {v : V} {i : Int} (h : Dp K H v (.int i)) : v = .int i := by cases h; rfl
theorem dp_str {K : PySem.W.Frag} {H : Hp} {v : V} {i : Str} (h : Dp K H v (.str i)) : v = .str i := by cases h; rfl
theorem dpa_cons {K : PySem.W.Frag} {H : Hp} {vs : List V} {d : PyData} {ds : List PyData} (h : DpAll K H vs (d :: ds)) : ∃ v ws, vs = v :: ws ∧ Dp K H v d ∧ DpAll K H ws ds := by
  cases h with
  | cons a t => exact ⟨_, _, rfl, a, t⟩
theorem dpa_nil {K : PySem.W.Frag} {H : Hp} {vs : List V} (h : DpAll K H vs []) : vs = [] := by cases h; rfl
theorem ex_updF {p : Addr} {o : HO} {H H' : Hp} (k : Ex H H') (hp : H p = none) : Ex H (upd H' p o) := fun a u h => by
  rw [upd_ne (ne_of_none h hp)]
  exact k a u h
/-! ### rules by name -/
def rTix (K : PySem.W.Frag) : V → List V → Hp → VK → Prop := fun x xs H Q => ∃ p, ∃ ys : List Str, ∃ z j, x = .ref p ∧ xs = [.str z] ∧ SqT K H p (ys.map V.str) ∧ ys[j]? = some z ∧ (∀ m, m < j → ys[m]? ≠ some z) ∧ Q (.int (j : Nat)) H
theorem mt_tix {X : Cx} : MtR X "tuple.index" (rTix X.K) := mt_tup_index
theorem q_tix {K : PySem.W.Frag} {H : Hp} {Q : VK} {p : Addr} {ys : List Str} {z : Str} {j : Nat} (h : TupK K p ys) (e : ys[j]? = some z) (n : ∀ m, m < j → ys[m]? ≠ some z) (q : Q (.int (j : Nat)) H) : rTix K (.ref p) [.str z] H Q := ⟨p, ys, z, j, rfl, rfl, h.sq, e, n, q⟩
def rKd (K : PySem.W.Frag) (w : World) : R2 := rIxD K w
theorem ix_kdA {X : Cx} : IxR X (rKd X.K X.w) := ix_kdict
theorem q_kd {K : PySem.W.Frag} {w : World} {H : Hp} {Q : VK} {p : Addr} {z : Str} {v : V} (h : KDct K w p z v) (q : Q v H) : rKd K w (.ref p) (.str z) H Q := ⟨p, z, v, rfl, rfl, h, q⟩
theorem q_extL {K : PySem.W.Frag} {H : Hp} {Q : VK} {l b : Addr} {xs zs : List V} (h : H l = some (.lst xs)) (h2 : SqL K H b zs) (z : xs.length + zs.length ≤ 100000) (q : Q .non (upd H l (.lst (xs ++ zs)))) : rExtA K (.ref l) [.ref b] H Q := .inl ⟨l, b, xs, zs, rfl, rfl, h, h2, sl1000 z, q⟩
theorem q_extT {K : PySem.W.Frag} {H : Hp} {Q : VK} {l b : Addr} {xs zs : List V} (h : H l = some (.lst xs)) (h2 : SqT K H b zs) (z : xs.length + zs.length ≤ 100000) (q : Q .non (upd H l (.lst (xs ++ zs)))) : rExtA K (.ref l) [.ref b] H Q := .inr ⟨l, b, xs, zs, rfl, rfl, h, h2, sl1000 z, q⟩
theorem pln_ok : ∀ p ∈ PLN, p.1 ≠ "calc" ∧ p.1 ≠ "either" ∧ p.1 ≠ "fork" ∧ OPN[opix p.1]? = some p.1 ∧ (∀ m, m < opix p.1 → OPN[m]? ≠ some p.1) ∧ opix p.1 < 17 ∧ 0 ≤ p.2 ∧ p.2 ≤ 2 := by decide +kernel
theorem ops_ok : ∀ k, k < 11 → OPS[k]? = some (OPS.getD k "") ∧ ∀ m, m < k → OPS[m]? ≠ some (OPS.getD k "") := by decide +kernel
theorem opn_kinds : OPN[8]? = some ("calc" : Str) ∧ (∀ m, m < 8 → OPN[m]? ≠ some ("calc" : Str)) ∧ OPN[13]? = some ("either" : Str) ∧ (∀ m, m < 13 → OPN[m]? ≠ some ("either" : Str)) ∧ OPN[14]? = some ("fork" : Str) ∧ (∀ m, m < 14 → OPN[m]? ≠ some ("fork" : Str)) := by decide +kernel
abbrev s_encode : Stmt := topS 8
theorem sc_encode : FnScope ["instruction", "name", "found", "row", "t", "takes"] ["instruction"] (defScope s_encode) := ⟨rfl, rfl, rfl, by decide +kernel, rfl, by decide +kernel, by decide +kernel⟩
abbrev p_encode : List Str := ["instruction"]
local macro_rules | `(tactic| walk_at "sq") => `(tactic| first
  | assumption
  | (refine ex_sql (by assumption) ?_; walk_at "sq")
  | (refine sqt_ex (by assumption) ?_; walk_at "sq"))
def sp_encode (K : PySem.W.Frag) : Sp := fun vs H Q _ => ∃ (v : V) (i : Ins), vs = [v] ∧ Dp K H v i.data ∧ i.ok ∧ ∀ p H', H p = none → Ex H H' → H' p = some (.lst (i.enc.map V.int)) → Q (.ref p) H'
theorem c_encode {v : V} {i : Ins} {H : Hp} {Q : VK} {E : XK} (h : Dp K H v i.data) (o : i.ok) (q : ∀ p H', H p = none → Ex H H' → H' p = some (.lst (i.enc.map V.int)) → Q (.ref p) H') : sp_encode K [v] H Q E := ⟨v, i, rfl, h, o, q⟩
theorem flat_take {α β : Type} {f : α → List β} {xs : List α} {i : Nat} {x : α} (h : xs[i]? = some x) : (xs.take (i + 1)).flatMap f = (xs.take i).flatMap f ++ f x := by
  rw [List.take_add_one, h]
  simp
theorem flat_le {α β : Type} {f : α → List β} {b : Nat} : ∀ (xs : List α), (∀ x ∈ xs, (f x).length ≤ b) → (xs.flatMap f).length ≤ b * xs.length
  | [], _ => by simp
  | x :: r, h => by
    rw [List.flatMap_cons, List.length_append, List.length_cons, Nat.mul_succ]
    have h1 := h x (List.mem_cons_self ..)
    have h2 := flat_le r fun y hy => h y (List.mem_cons_of_mem _ hy)
    omega
theorem eBr_len {r : Int × List Int} (h : r.2.length ≤ 100) : (eBr r).length ≤ 102 := by
  show r.2.length + 1 + 1 ≤ 102
  omega
theorem ok_encode (T : Glo K w mg) (D : Dn K mg "encode" s_encode p_encode) : Cal P w K mg base "encode" 1 p_encode (sp_encode K) := by
  refine D.ok sc_encode (fun vs H Q E h => ?_) (fun f cdv A outer s H vs Q E hr h => ?_)
  · obtain ⟨_, _, rfl, _⟩ := h
    rfl
  obtain ⟨v, i, rfl, hv, ok, q⟩ := h
  obtain ⟨aN, g_NAMES, tN⟩ := T.c_NAMES
  obtain ⟨aO, g_OPERATORS, tO⟩ := T.c_OPERATORS
  refine ⟨_, (pss_cons (ps_set (i := 1) sc_encode.nd rfl (by first | exact Or.inl rfl | exact Or.inr rfl) (pe_ix ix_seq (pv 0) pe_int (fun _ _ => rfl))) (pss_cons (ps_set (i := 2) sc_encode.nd rfl (by first | exact Or.inl rfl | exact Or.inr rfl) (pe_lst (pa_cons (pe_bm PySem.F.plainAttrs_tuple PySem.F.slot_tuple_index PySem.F.type_tuple_index mt_tix (pe_globR rfl g_NAMES) (pa_cons (pv 1) pa_nil)) pa_nil))) (pss_cons (ps_if (pt_cmpR (op_eqA (hu64 hr)) (pv 1) pe_str (nomark _)) (pss_one (ps_expr (pe_bm PySem.F.plainAttrs_list PySem.F.slot_list_append PySem.F.type_list_append mt_append (pv 2) (pa_cons (pe_bm PySem.F.plainAttrs_tuple PySem.F.slot_tuple_index PySem.F.type_tuple_index mt_tix (pe_globR rfl g_OPERATORS) (pa_cons (pe_ix ix_seq (pv 0) pe_int (fun _ _ => rfl)) pa_nil)) pa_nil)))) (pss_one (ps_if (pt_cmpR (op_eqA (hu64 hr)) (pv 1) pe_str (nomark _)) (pss_cons (ps_expr (pe_bm PySem.F.plainAttrs_list PySem.F.slot_list_append PySem.F.type_list_append mt_append (pv 2) (pa_cons (pe_callB call_lenA rfl T.n_len (by decide +kernel) (pa_cons (pe_ix ix_seq (pv 0) pe_int (fun _ _ => rfl)) pa_nil)) pa_nil))) (pss_one (ps_for PassesOwn.never rfl (pi_list (pe_ix ix_seq (pv 0) pe_int (fun _ _ => rfl))) (pg_name (i := 3) sc_encode.nd rfl (by first | exact Or.inl rfl | exact Or.inr rfl)) (pss_one (ps_expr (pe_bm PySem.F.plainAttrs_list PySem.F.slot_list_extend PySem.F.type_list_extend mt_extA (pv 2) (pa_cons (pv 3) pa_nil))))))) (pss_one (ps_if (pt_cmpR (op_eqA (hu64 hr)) (pv 1) pe_str (nomark _)) (pss_cons (ps_expr (pe_bm PySem.F.plainAttrs_list PySem.F.slot_list_append PySem.F.type_list_append mt_append (pv 2) (pa_cons (pe_callB call_lenA rfl T.n_len (by decide +kernel) (pa_cons (pe_ix ix_seq (pv 0) pe_int (fun _ _ => rfl)) pa_nil)) pa_nil))) (pss_one (ps_for PassesOwn.never rfl (pi_list (pe_ix ix_seq (pv 0) pe_int (fun _ _ => rfl))) (pg_tup rfl (pgs_cons (pg_name (i := 4) sc_encode.nd rfl (by first | exact Or.inl rfl | exact Or.inr rfl)) (pgs_cons (pg_name (i := 5) sc_encode.nd rfl (by first | exact Or.inl rfl | exact Or.inr rfl)) pgs_nil))) (pss_cons (ps_expr (pe_bm PySem.F.plainAttrs_list PySem.F.slot_list_extend PySem.F.type_list_extend mt_extA (pv 2) (pa_cons (pe_lst (pa_cons (pv 4) (pa_cons (pe_callB call_lenA rfl T.n_len (by decide +kernel) (pa_cons (pv 5) pa_nil)) pa_nil))) pa_nil))) (pss_one (ps_expr (pe_bm PySem.F.plainAttrs_list PySem.F.slot_list_extend PySem.F.type_list_extend mt_extA (pv 2) (pa_cons (pv 5) pa_nil)))))))) (pss_one (ps_expr (pe_bm PySem.F.plainAttrs_list PySem.F.slot_list_extend PySem.F.type_list_extend mt_extA (pv 2) (pa_cons (pe_slice sl_any (pv 0) (po_some pe_int) po_none) pa_nil))))))))) (pss_one (ps_ret (pv 2)))))), ?_⟩
  try dsimp only [cxOf, Cx.nox]
  cases i with
  | op x ns =>
    obtain ⟨pI, xs, rfl, hpI, ha⟩ := dp_tup hv
    obtain ⟨v1, ws, rfl, h1, h2⟩ := dpa_cons ha
    obtain rfl := dp_str h1
    obtain rfl := dp_ints h2
    obtain ⟨c1, c2, c3, c4, c5, c6, c7, c8⟩ := pln_ok _ ok
    simp only at c1 c2 c3 c4 c5 c6 c7 c8
    have lz : ns.length ≤ 2 := by omega
    repeat' walk_at "st"
    refine ⟨tN.ty, ?_⟩
    repeat' walk_at "st"
    refine q_tix tN c4 c5 ?_
    repeat' walk_at "st"
    all_goals first | contradiction | skip
    rename_i p1 H1 hp1 k1 hl1 _ _ _
    refine q_extT (xs := [V.int (opix x)]) (zs := ns.map V.int) (ke _ _ hl1) (sqt hn) (by rw [List.length_map]; show 1 + ns.length ≤ _; omega) ?_
    repeat' walk_at "st"
    exact q _ _ hp1 (ex_updF (k1.trans ke) hp1) upd_same
  | cal k =>
    obtain ⟨pI, xs, rfl, hpI, ha⟩ := dp_tup hv
    obtain ⟨v1, ws, rfl, h1, h2⟩ := dpa_cons ha
    obtain rfl := dp_str h1
    obtain ⟨v2, ws, rfl, h3, h4⟩ := dpa_cons h2
    obtain rfl := dp_str h3
    obtain rfl := dpa_nil h4
    obtain ⟨o1, o2⟩ := ops_ok k ok
    have hc := opn_kinds.1
    have hd := opn_kinds.2.1
    repeat' walk_at "st"
    refine ⟨tN.ty, ?_⟩
    repeat' walk_at "st"
    refine q_tix tN hc hd ?_
    repeat' walk_at "st"
    refine ⟨tO.ty, ?_⟩
    repeat' walk_at "st"
    refine q_tix tO o1 o2 ?_
    repeat' walk_at "st"
    refine q_append hn (by decide) ?_
    repeat' walk_at "st"
    exact q _ _ (by assumption) (ex_updF ke (by assumption)) upd_same
  | alt rows =>
    obtain ⟨pI, xs, rfl, hpI, ha⟩ := dp_tup hv
    obtain ⟨v1, ws, rfl, h1, h2⟩ := dpa_cons ha
    obtain rfl := dp_str h1
    obtain ⟨v2, ws, rfl, h3, h4⟩ := dpa_cons h2
    obtain rfl := dpa_nil h4
    obtain ⟨b, ys, rfl, hb, hy⟩ := dp_lst h3
    have hc := opn_kinds.2.2.1
    have hd := opn_kinds.2.2.2.1
    have ly : ys.length = rows.length := by rw [dpa_len hy, List.length_map]
    have lr : rows.length ≤ 100 := ok
    repeat' walk_at "st"
    refine ⟨tN.ty, ?_⟩
    repeat' walk_at "st"
    refine q_tix tN hc hd ?_
    repeat' walk_at "st"
    refine q_append hn (by decide) ?_
    generalize hq : upd Hn p _ = H2
    have k2 := ex_set ke hp hq
    have hl2 := at_new hq
    rw [ly] at hl2
    have hb2 := ex_sql k2 hb
    clear hq
    repeat' walk_at "st"
    refine w_list (xs := ys) (fun i σ H' => ∃ y3 : Option V, σ = [some (.ref pI), some (.str "either"), some (.ref p), y3, none, none] ∧ Ex H H' ∧ H' p = some (.lst ((13 :: (rows.length : Int) :: (rows.take i).flatMap eRow).map V.int))) ?_ ?_ ?_ ?_
    · exact ⟨none, rfl, k2, hl2⟩
    · rintro i σ H' _ ⟨y3, rfl, k3, h3⟩
      exact ex_sql k3 hb
    · rintro i y σ H' hi ⟨y3, rfl, k3, h3⟩
      obtain ⟨d, hd, hyd⟩ := dpa_at hy hi
      rw [List.getElem?_map] at hd
      obtain ⟨r, hr, rfl⟩ := Option.map_eq_some_iff.mp hd
      obtain ⟨a, zs, rfl, hz, hza⟩ := dp_tup hyd
      have ez : zs = (eRow r).map V.int := dp_ints (ns := eRow r) hza
      subst ez
      have hi' : i < rows.length := (List.getElem?_eq_some_iff.mp hr).1
      have hz' := sqt_ex k3 hz
      repeat' walk_at "st"
      refine q_extT h3 hz' ?_ ?_
      · have hf := flat_le (f := eRow) (b := 3) (rows.take i) fun x _ => Nat.le_refl _
        rw [List.length_take] at hf
        simp only [List.length_map, List.length_cons]
        show _ + 3 ≤ _
        omega
      · repeat' walk_at "st"
        refine ⟨_, rfl, ex_updF k3 hp, ?_⟩
        rw [upd_same, flat_take hr, List.map_cons, List.map_cons, List.map_cons, List.map_cons, List.map_append]
        rfl
    · rintro σ H' ⟨y3, rfl, k3, h3⟩
      repeat' walk_at "st"
      refine q _ _ hp k3 ?_
      rw [h3, ly, List.take_length]
      rfl
  | frk rows =>
    obtain ⟨pI, xs, rfl, hpI, ha⟩ := dp_tup hv
    obtain ⟨v1, ws, rfl, h1, h2⟩ := dpa_cons ha
    obtain rfl := dp_str h1
    obtain ⟨v2, ws, rfl, h3, h4⟩ := dpa_cons h2
    obtain rfl := dpa_nil h4
    obtain ⟨b, ys, rfl, hb, hy⟩ := dp_lst h3
    have hc := opn_kinds.2.2.2.2.1
    have hd := opn_kinds.2.2.2.2.2
    have ly : ys.length = rows.length := by rw [dpa_len hy, List.length_map]
    obtain ⟨lr, lt⟩ := ok
    repeat' walk_at "st"
    refine ⟨tN.ty, ?_⟩
    repeat' walk_at "st"
    refine q_tix tN hc hd ?_
    repeat' walk_at "st"
    refine q_append hn (by decide) ?_
    generalize hq : upd Hn p _ = H2
    have k2 := ex_set ke hp hq
    have hl2 := at_new hq
    rw [ly] at hl2
    have hb2 := ex_sql k2 hb
    clear hq
    repeat' walk_at "st"
    refine w_list (xs := ys) (fun i σ H' => ∃ y4 y5 : Option V, σ = [some (.ref pI), some (.str "fork"), some (.ref p), none, y4, y5] ∧ Ex H H' ∧ H' p = some (.lst ((14 :: (rows.length : Int) :: (rows.take i).flatMap eBr).map V.int))) ?_ ?_ ?_ ?_
    · exact ⟨none, none, rfl, k2, hl2⟩
    · rintro i σ H' _ ⟨y4, y5, rfl, k3, h3⟩
      exact ex_sql k3 hb
    · rintro i y σ H' hi ⟨y4, y5, rfl, k3, h3⟩
      obtain ⟨d, hd, hyd⟩ := dpa_at hy hi
      rw [List.getElem?_map] at hd
      obtain ⟨r, hr, rfl⟩ := Option.map_eq_some_iff.mp hd
      obtain ⟨a, zs, rfl, hz, hza⟩ := dp_tup hyd
      obtain ⟨v1, ws, rfl, z1, z2⟩ := dpa_cons hza
      obtain rfl := dp_int z1
      obtain ⟨v2, ws, rfl, z3, z4⟩ := dpa_cons z2
      obtain rfl := dpa_nil z4
      obtain ⟨g, us, rfl, hg, hu⟩ := dp_lst z3
      obtain rfl := dp_ints hu
      have hi' : i < rows.length := (List.getElem?_eq_some_iff.mp hr).1
      have hz' := sqt_ex k3 hz
      have hg' := ex_sql k3 hg
      have hf := flat_le (f := eBr) (b := 102) (rows.take i) fun x hx => eBr_len (lt x (List.mem_of_mem_take hx))
      rw [List.length_take] at hf
      have hl := lt r (List.mem_of_getElem? hr)
      repeat' walk_at "st"
      rename_i p4 H4 hp4 k4 hl4
      refine q_extL (ke _ _ h3) (sql hn) ?_ ?_
      · simp only [List.length_map, List.length_cons, List.length_nil]
        omega
      generalize hq : upd Hn p4 _ = H5
      have k5 := ex_set (k3.trans ke) hp4 hq
      have hl5 := at_new hq
      have hg5 := ex_sql k5 hg
      clear hq
      repeat' walk_at "st"
      refine q_extL hl5 hg5 ?_ ?_
      · simp only [List.length_map, List.length_cons, List.length_nil, List.length_append]
        omega
      · repeat' walk_at "st"
        refine ⟨_, _, rfl, ex_updF k5 hp4, ?_⟩
        rw [upd_same, flat_take hr]
        simp only [eBr, List.map_cons, List.map_append, List.append_assoc, List.length_map]
        rfl
    · rintro σ H' ⟨y4, y5, rfl, k3, h3⟩
      repeat' walk_at "st"
      refine q _ _ hp k3 ?_
      rw [h3, ly, List.take_length]
      rfl
/-! ### data whose lists are not among M -/
mutual
inductive DpM (M : List Addr) (H : Hp) : V → PyData → Prop
  | non : DpM M H .non .none
  | bl (b : Bool) : DpM M H (.bl b) (.bool b)
  | int (i : Int) : DpM M H (.int i) (.int i)
  | str (x : Str) : DpM M H (.str x) (.str x)
  | lst {a : Addr} {xs : List V} {ds : List PyData} : a ∉ M → H a = some (.lst xs) → DpMs M H xs ds → DpM M H (.ref a) (.list ds)
  | tup {a : Addr} {xs : List V} {ds : List PyData} : H a = some (.tup xs) → DpMs M H xs ds → DpM M H (.ref a) (.tuple ds)
inductive DpMs (M : List Addr) (H : Hp) : List V → List PyData → Prop
  | nil : DpMs M H [] []
  | cons {v : V} {vs : List V} {d : PyData} {ds : List PyData} : DpM M H v d → DpMs M H vs ds → DpMs M H (v :: vs) (d :: ds)
end
mutual
theorem dpm_kp {M N : List Addr} {H H' : Hp} (e : Kp N H H') (s : ∀ x, x ∈ N → x ∈ M) : ∀ {v : V} {d : PyData}, DpM M H v d → DpM M H' v d
  | _, _, .non => .non
  | _, _, .bl b => .bl b
  | _, _, .int i => .int i
  | _, _, .str x => .str x
  | _, _, .lst n h t => .lst n (e.out _ _ (fun z => n (s _ z)) h) (dpms_kp e s t)
  | _, _, .tup h t => .tup (e.tup _ _ h) (dpms_kp e s t)
theorem dpms_kp {M N : List Addr} {H H' : Hp} (e : Kp N H H') (s : ∀ x, x ∈ N → x ∈ M) : ∀ {vs : List V} {ds : List PyData}, DpMs M H vs ds → DpMs M H' vs ds
  | _, _, .nil => .nil
  | _, _, .cons h t => .cons (dpm_kp e s h) (dpms_kp e s t)
end
mutual
theorem dpm_dp {M : List Addr} {K : PySem.W.Frag} {H : Hp} : ∀ {v : V} {d : PyData}, DpM M H v d → Dp K H v d
  | _, _, .non => .non
  | _, _, .bl b => .bl b
  | _, _, .int i => .int i
  | _, _, .str x => .str x
  | _, _, .lst n h t => .lst (sql h) (dpms_dp t)
  | _, _, .tup h t => .tup (sqt h) (dpms_dp t)
theorem dpms_dp {M : List Addr} {K : PySem.W.Frag} {H : Hp} : ∀ {vs : List V} {ds : List PyData}, DpMs M H vs ds → DpAll K H vs ds
  | _, _, .nil => .nil
  | _, _, .cons h t => .cons (dpm_dp h) (dpms_dp t)
end
theorem dpms_app {M : List Addr} {H : Hp} : ∀ {vs ws : List V} {ds es : List PyData}, DpMs M H vs ds → DpMs M H ws es → DpMs M H (vs ++ ws) (ds ++ es)
  | _, _, _, _, .nil, h => h
  | _, _, _, _, .cons a t, h => .cons a (dpms_app t h)
theorem dpms_one {M : List Addr} {H : Hp} {v : V} {d : PyData} (h : DpM M H v d) : DpMs M H [v] [d] := .cons h .nil
theorem dpms_ints {M : List Addr} {H : Hp} : ∀ ns : List Int, DpMs M H (ns.map V.int) (dInts ns)
  | [] => .nil
  | n :: r => .cons (.int n) (dpms_ints r)
theorem dpms_len {M : List Addr} {H : Hp} : ∀ {vs : List V} {ds : List PyData}, DpMs M H vs ds → vs.length = ds.length
  | _, _, .nil => rfl
  | _, _, .cons _ t => by rw [List.length_cons, List.length_cons, dpms_len t]
/-- what M holds stands -/
def Mo (M : List Addr) (H : Hp) : Prop := ∀ x, x ∈ M → H x ≠ none
theorem Mo.new {M : List Addr} {H : Hp} {p : Addr} (m : Mo M H) (h : H p = none) : p ∉ M := fun z => m p z h
theorem ex_dom {H H' : Hp} (e : Ex H H') {x : Addr} (h : H x ≠ none) : H' x ≠ none := fun z => by
  cases h1 : H x with
  | none => exact h h1
  | some o => rw [e _ _ h1] at z; cases z
theorem mo_ex {M : List Addr} {H H' : Hp} (e : Ex H H') (m : Mo M H) : Mo M H' := fun x hx => ex_dom e (m x hx)
/-- one object changed, the others stay -/
theorem kp_dom {N : List Addr} {H H' : Hp} (e : Kp N H H') (n : ∀ x, x ∈ N → H' x ≠ none) {x : Addr} (h : H x ≠ none) : H' x ≠ none := fun z => by
  by_cases hx : x ∈ N
  · exact n x hx z
  · cases h1 : H x with
    | none => exact h h1
    | some o => rw [e.out _ _ hx h1] at z; cases z
theorem mo_kp {M N : List Addr} {H H' : Hp} (e : Kp N H H') (n : ∀ x, x ∈ N → H' x ≠ none) (m : Mo M H) : Mo M H' := fun x hx => kp_dom e n (m x hx)
theorem kp_new {p : Addr} {H H' : Hp} (e : Kp [p] H H') : ∀ {H0 : Hp}, Ex H0 H → H0 p = none → Ex H0 H' := fun k hp a o h => e.out a o (by
  intro z
  rw [List.mem_singleton.mp z, hp] at h
  cases h) (k a o h)
mutual
theorem dpm_sub {M N : List Addr} {H : Hp} (s : ∀ x, x ∈ N → x ∈ M) : ∀ {v : V} {d : PyData}, DpM M H v d → DpM N H v d
  | _, _, .non => .non
  | _, _, .bl b => .bl b
  | _, _, .int i => .int i
  | _, _, .str x => .str x
  | _, _, .lst n h t => .lst (fun z => n (s _ z)) h (dpms_sub s t)
  | _, _, .tup h t => .tup h (dpms_sub s t)
theorem dpms_sub {M N : List Addr} {H : Hp} (s : ∀ x, x ∈ N → x ∈ M) : ∀ {vs : List V} {ds : List PyData}, DpMs M H vs ds → DpMs N H vs ds
  | _, _, .nil => .nil
  | _, _, .cons h t => .cons (dpm_sub s h) (dpms_sub s t)
end
theorem dpm_ex {M : List Addr} {H H' : Hp} (e : Ex H H') {v : V} {d : PyData} (h : DpM M H v d) : DpM M H' v d := dpm_kp (N := []) e.kp (fun _ z => absurd z List.not_mem_nil) h
theorem dpms_ex {M : List Addr} {H H' : Hp} (e : Ex H H') {vs : List V} {ds : List PyData} (h : DpMs M H vs ds) : DpMs M H' vs ds := dpms_kp (N := []) e.kp (fun _ z => absurd z List.not_mem_nil) h
theorem kp_lst {H : Hp} {p : Addr} {xs : List V} {o : HO} (h : H p = some (.lst xs)) : Kp [p] H (upd H p o) := Kp.set (List.mem_singleton.mpr rfl) (fun xs z => by rw [h] at z; cases z) rfl
theorem sub_hd {D : Addr} {M : List Addr} : ∀ x, x ∈ [D] → x ∈ D :: M := fun x h => by rw [List.mem_singleton.mp h]; exact List.mem_cons_self ..
theorem sub_tl {D : Addr} {M : List Addr} : ∀ x, x ∈ M → x ∈ D :: M := fun x h => List.mem_cons_of_mem _ h
theorem sub_mem {D : Addr} {M : List Addr} (m : D ∈ M) : ∀ x, x ∈ [D] → x ∈ M := fun x h => by rw [List.mem_singleton.mp h]; exact m
theorem mo_add {D : Addr} {M : List Addr} {H : Hp} (h : H D ≠ none) (m : Mo M H) : Mo (D :: M) H := fun x hx => by
  rcases List.mem_cons.mp hx with rfl | hx
  · exact h
  · exact m x hx
theorem some_ne {H : Hp} {D : Addr} {o : HO} (h : H D = some o) : H D ≠ none := fun z => by rw [h] at z; cases z
theorem mo_kp1 {p : Addr} {M : List Addr} {H H' : Hp} {o : HO} (e : Kp [p] H H') (h : H' p = some o) (m : Mo M H) : Mo M H' := mo_kp e (fun x hx => by rw [List.mem_singleton.mp hx]; exact some_ne h) m
abbrev s_Words___init__ : Stmt := inClass (topS 9) 0
theorem sc_Words___init__ : FnScope ["self", "words"] ["self", "words"] (defScope s_Words___init__) := ⟨rfl, rfl, rfl, by decide +kernel, rfl, by decide +kernel, by decide +kernel⟩
abbrev p_Words___init__ : List Str := ["self", "words"]
abbrev s_Words_is_left : Stmt := inClass (topS 9) 1
theorem sc_Words_is_left : FnScope ["self"] ["self"] (defScope s_Words_is_left) := ⟨rfl, rfl, rfl, by decide +kernel, rfl, by decide +kernel, by decide +kernel⟩
abbrev p_Words_is_left : List Str := ["self"]
abbrev s_Words_take : Stmt := inClass (topS 9) 2
theorem sc_Words_take : FnScope ["self"] ["self"] (defScope s_Words_take) := ⟨rfl, rfl, rfl, by decide +kernel, rfl, by decide +kernel, by decide +kernel⟩
abbrev p_Words_take : List Str := ["self"]
abbrev s_Words_take_many : Stmt := inClass (topS 9) 3
theorem sc_Words_take_many : FnScope ["self", "many", "_"] ["self", "many"] (defScope s_Words_take_many) := ⟨rfl, rfl, rfl, by decide +kernel, rfl, by decide +kernel, by decide +kernel⟩
abbrev p_Words_take_many : List Str := ["self", "many"]
abbrev s_decode : Stmt := topS 10
theorem sc_decode : FnScope ["words", "left", "found"] ["words"] (defScope s_decode) := ⟨rfl, rfl, rfl, by decide +kernel, rfl, by decide +kernel, by decide +kernel⟩
abbrev p_decode : List Str := ["words"]
abbrev s_take_instruction : Stmt := topS 11
theorem sc_take_instruction : FnScope ["left", "first", "opcode", "name", "operator", "_"] ["left"] (defScope s_take_instruction) := ⟨rfl, rfl, rfl, by decide +kernel, rfl, by decide +kernel, by decide +kernel⟩
abbrev p_take_instruction : List Str := ["left"]
abbrev s_take_row : Stmt := topS 12
theorem sc_take_row : FnScope ["left", "c", "k", "p"] ["left"] (defScope s_take_row) := ⟨rfl, rfl, rfl, by decide +kernel, rfl, by decide +kernel, by decide +kernel⟩
abbrev p_take_row : List Str := ["left"]
abbrev s_take_branch : Stmt := topS 13
theorem sc_take_branch : FnScope ["left", "t"] ["left"] (defScope s_take_branch) := ⟨rfl, rfl, rfl, by decide +kernel, rfl, by decide +kernel, by decide +kernel⟩
abbrev p_take_branch : List Str := ["left"]
/-! ### the reader -/
structure WdK (K : PySem.W.Frag) (C : Addr) : Prop where
  cl : Cls K C
  nW : NoAttr K C "words"
  nA : NoAttr K C "at"
def wfl (a : Addr) (n : Int) : List (Str × V) := [("words", .ref a), ("at", .int n)]
variable {C : Addr}
def sp_init (C : Addr) : Sp := fun vs H Q _ => ∃ (p a dx : Addr), vs = [.ref p, .ref a] ∧ H p = some (.ins C dx []) ∧ ∀ H', H' p = some (.ins C dx (wfl a 0)) → (∀ b, b ≠ p → H' b = H b) → Q .non H'
theorem ok_init (W : WdK K C) (D : DnI K mg "Words" "Words.__init__" C s_Words___init__ p_Words___init__) : MakC P w K mg base "Words" C 1 p_Words___init__ (sp_init C) := by
  have hc := W.cl
  have h1 := W.nW
  have h2 := W.nA
  refine D.ok sc_Words___init__ (fun vs H Q E h => ?_) (fun f cdv A outer s H vs Q E hr h => ?_)
  · obtain ⟨_, _, _, rfl, _⟩ := h
    rfl
  obtain ⟨p, a, dx, rfl, hp, q⟩ := h
  refine ⟨_, (pss_cons (ps_fld (pv 0) (pv 1) rfl) (pss_one (ps_fld (pv 0) pe_int rfl))), ?_⟩
  try dsimp only [cxOf, Cx.nox]
  repeat' walk_at "st"
  refine q_sfld (fs' := [("words", .ref a)]) hp hc h1 (by show 0 < 1000; decide) put_nil ?_
  repeat' walk_at "st"
  refine q_sfld (fs' := wfl a 0) upd_same hc h2 (by show 1 < 1000; decide) (by walk_at "put") ?_
  repeat' walk_at "st"
  refine q _ upd_same fun b hb => ?_
  rw [upd_ne hb, upd_ne hb]
def sp_left (C : Addr) : Sp := fun vs H Q _ => ∃ (p a dx : Addr) (n : Int) (xs : List V), vs = [.ref p] ∧ H p = some (.ins C dx (wfl a n)) ∧ H a = some (.lst xs) ∧ Q (.bl (decide (n < xs.length))) H
theorem c_left {p a dx : Addr} {n : Int} {xs : List V} {H : Hp} {Q : VK} {E : XK} (h1 : H p = some (.ins C dx (wfl a n))) (h2 : H a = some (.lst xs)) (q : Q (.bl (decide (n < xs.length))) H) : sp_left C [.ref p] H Q E := ⟨p, a, dx, n, xs, rfl, h1, h2, q⟩
theorem ok_left (T : Glo K w mg) (W : WdK K C) (D : DnM K C "is_left" "Words.is_left" s_Words_is_left p_Words_is_left) : MetC P w K mg base C "is_left" 1 p_Words_is_left (sp_left C) := by
  have hc := W.cl
  have h1 := W.nW
  have h2 := W.nA
  refine D.ok sc_Words_is_left (fun vs H Q E h => ?_) (fun f cdv A outer s H vs Q E hr h => ?_)
  · obtain ⟨_, _, _, _, _, rfl, _⟩ := h
    rfl
  obtain ⟨p, a, dx, n, xs, rfl, hp, ha, q⟩ := h
  refine ⟨_, (pss_one (ps_ret (pe_cmpR op_lt (pe_fld (pv 0) rfl) (pe_callB call_lenA rfl T.n_len (by decide +kernel) (pa_cons (pe_fld (pv 0) rfl) pa_nil)) (nomark _)))), ?_⟩
  try dsimp only [cxOf, Cx.nox]
  simp only [wfl] at hp
  repeat' walk_at "st"
  · rename_i c
    rw [decide_eq_true c] at q
    exact q
  · rename_i c
    rw [decide_eq_false c] at q
    exact q
def sp_take (C : Addr) : Sp := fun vs H Q _ => ∃ (p a dx : Addr) (n : Int) (xs : List V) (v : V), vs = [.ref p] ∧ H p = some (.ins C dx (wfl a n)) ∧ H a = some (.lst xs) ∧ 0 ≤ n ∧ xs[n.toNat]? = some v ∧ ∀ H', Kp [p] H H' → H' p = some (.ins C dx (wfl a (n + 1))) → Q v H'
theorem c_take {p a dx : Addr} {n : Int} {xs : List V} {v : V} {H : Hp} {Q : VK} {E : XK} (h1 : H p = some (.ins C dx (wfl a n))) (h2 : H a = some (.lst xs)) (h3 : 0 ≤ n) (h4 : xs[n.toNat]? = some v) (q : ∀ H', Kp [p] H H' → H' p = some (.ins C dx (wfl a (n + 1))) → Q v H') :
    sp_take C [.ref p] H Q E := ⟨p, a, dx, n, xs, v, rfl, h1, h2, h3, h4, q⟩
theorem kp_ins {H : Hp} {p dx : Addr} {fs : List (Str × V)} {o : HO} (h : H p = some (.ins C dx fs)) : Kp [p] H (upd H p o) := Kp.set (List.mem_singleton.mpr rfl) (fun xs z => by rw [h] at z; cases z) rfl
theorem ok_take (T : Glo K w mg) (W : WdK K C) (D : DnM K C "take" "Words.take" s_Words_take p_Words_take) (G_Words_is_left : MetC P w K mg base C "is_left" 1 p_Words_is_left (sp_left C)) : MetC P w K mg base C "take" 2 p_Words_take (sp_take C) := by
  have hc := W.cl
  have h1 := W.nW
  have h2 := W.nA
  refine D.ok sc_Words_take (fun vs H Q E h => ?_) (fun f cdv A outer s H vs Q E hr h => ?_)
  · obtain ⟨_, _, _, _, _, _, rfl, _⟩ := h
    rfl
  obtain ⟨p, a, dx, n, xs, v, rfl, hp, ha, n0, hv, q⟩ := h
  have hn : n.toNat < xs.length := (List.getElem?_eq_some_iff.mp hv).1
  have hap : a ≠ p := ne_of ha hp (by intro z; cases z)
  refine ⟨_, (pss_cons (ps_if (pt_not (pt_val (pe_mtC0 G_Words_is_left (hr.mono (by walk_at "lev")) (pv 0)))) (pss_one ps_never) pss_nil) (pss_cons (ps_fldaug (pv 0) pe_int in_add) (pss_one (ps_ret (pe_ix ix_seq (pe_fld (pv 0) rfl) (pe_op op_sub (pe_fld (pv 0) rfl) pe_int) (fun _ _ => rfl)))))), ?_⟩
  try dsimp only [cxOf, Cx.nox]
  have hp' := hp
  simp only [wfl] at hp'
  repeat' walk_at "st"
  refine c_left hp ha ?_
  rw [decide_eq_true (by omega : n < (xs.length : Int))]
  repeat' walk_at "st"
  all_goals skip
  refine ⟨dx, wfl a n, hp, by show 2 < 1000; decide, ?_⟩
  rw [show putF "at" (V.int (n + 1)) (wfl a n) = wfl a (n + 1) by unfold wfl; walk_at "put"]
  generalize hq : upd H p _ = H2
  have hp2 := at_new hq
  have ha2 : H2 a = some (.lst xs) := by rw [← hq, upd_ne hap]; exact ha
  have hp3 := hp2
  simp only [wfl] at hp3
  have hk : Kp [p] H H2 := by rw [← hq]; exact kp_ins hp
  have hv2 : atI xs (n + 1 - 1) = some v := by
    rw [show n + 1 - 1 = ((n.toNat : Nat) : Int) by omega]
    exact atI_nat hv
  repeat' walk_at "st"
  exact q H2 hk hp2
def sp_many (C : Addr) : Sp := fun vs H Q _ => ∃ (p a dx : Addr) (n m : Nat) (xs : List V), vs = [.ref p, .int m] ∧ H p = some (.ins C dx (wfl a n)) ∧ H a = some (.lst xs) ∧ n + m ≤ xs.length ∧ xs.length ≤ 100000 ∧ ∀ H' r, H r = none → Kp [p] H H' → H' r = some (.lst ((xs.drop n).take m)) → H' p = some (.ins C dx (wfl a ((n + m : Nat) : Int))) → Q (.ref r) H'
theorem c_many {p a dx : Addr} {n m : Nat} {xs : List V} {H : Hp} {Q : VK} {E : XK} (h1 : H p = some (.ins C dx (wfl a n))) (h2 : H a = some (.lst xs)) (h3 : n + m ≤ xs.length) (h4 : xs.length ≤ 100000) (q : ∀ H' r, H r = none → Kp [p] H H' → H' r = some (.lst ((xs.drop n).take m)) → H' p = some (.ins C dx (wfl a ((n + m : Nat) : Int))) → Q (.ref r) H') :
    sp_many C [.ref p, .int m] H Q E := ⟨p, a, dx, n, m, xs, rfl, h1, h2, h3, h4, q⟩
theorem nin_one {p q : Addr} (h : p ≠ q) : p ∉ [q] := by
  simp only [List.mem_cons, List.not_mem_nil, or_false]
  exact h
theorem kp_updF {M : List Addr} {p : Addr} {o : HO} {H H' : Hp} (k : Kp M H H') (hp : H p = none) : Kp M H (upd H' p o) :=
  ⟨fun a xs h => by rw [upd_ne (ne_of_none h hp)]; exact k.tup a xs h, fun a u n h => by rw [upd_ne (ne_of_none h hp)]; exact k.out a u n h⟩
theorem ok_many (T : Glo K w mg) (W : WdK K C) (D : DnM K C "take_many" "Words.take_many" s_Words_take_many p_Words_take_many) (G_Words_take : MetC P w K mg base C "take" 2 p_Words_take (sp_take C)) : MetC P w K mg base C "take_many" 3 p_Words_take_many (sp_many C) := by
  refine D.ok sc_Words_take_many (fun vs H Q E h => ?_) (fun f cdv A outer s H vs Q E hr h => ?_)
  · obtain ⟨_, _, _, _, _, _, rfl, _⟩ := h
    rfl
  obtain ⟨p, a, dx, n, m, xs, rfl, hp, ha, hm, hl, q⟩ := h
  have hap : a ≠ p := ne_of ha hp (by intro z; cases z)
  refine ⟨_, (pss_one (ps_ret (pe_lc (own := [("_", 2)]) (tt := tYes) rfl sc_Words_take_many.nd (pi_range1 rfl T.n_range (pa_cons (pv 1) pa_nil)) (blkOk_by (N := ["self", "many", "_"]) (sc := defScope s_Words_take_many) (by decide +kernel)) (fun _ _ _ _ _ => (pg_name (i := 2) sc_Words_take_many.nd rfl (by first | exact Or.inl rfl | exact Or.inr rfl))) (fun _ _ _ _ _ => pts_nil) (fun _ _ _ _ _ => (pe_mtC0 G_Words_take (hr.mono (by walk_at "lev")) (pv 0)))))), ?_⟩
  try dsimp only [cxOf, Cx.nox]
  repeat' walk_at "st"
  intro L hL
  have nLp : L ≠ p := (ne_of_none hp hL).symm
  refine lc_range (lo := 0) (n := ((m : Nat) : Int).toNat) (fun i H2 => Kp [p] H H2 ∧ H2 p = some (.ins C dx (wfl a ((n + i : Nat) : Int))) ∧ H2 L = some (.lst ((xs.drop n).take i))) ?_ ?_ ?_
  · refine ⟨kp_updF (Kp.refl _) hL, ?_, upd_same⟩
    rw [upd_ne nLp.symm]
    exact hp
  · rintro i H2 hi ⟨k2, p2, l2⟩
    rw [Int.toNat_natCast] at hi
    have hx : xs[n + i]? = some xs[n + i] := List.getElem?_eq_getElem (by omega)
    have a2 := k2.out _ _ (nin_one hap) ha
    have p2' := p2
    simp only [wfl] at p2'
    refine ⟨rfl, ?_⟩
    repeat' walk_at "st"
    refine c_take p2 a2 (by omega) (by rw [Int.toNat_natCast]; exact hx) (fun H3 k3 p3 => ?_)
    have l3 := k3.out _ _ (nin_one nLp) l2
    refine ⟨_, l3, sl1000' ?_, kp_updF (k2.trans k3) hL, ?_, ?_⟩
    · rw [List.length_take, List.length_drop]
      omega
    · rw [upd_ne nLp.symm, p3]
      rfl
    · rw [upd_same, List.take_add_one, List.getElem?_drop, hx]
      rfl
  · rintro H2 ⟨k2, p2, l2⟩
    rw [Int.toNat_natCast] at p2 l2
    repeat' walk_at "st"
    exact q _ _ hL k2 l2 p2
theorem drop_get {α : Type} {xs ys : List α} {y : α} {n : Nat} (h : xs.drop n = y :: ys) : xs[n]? = some y ∧ xs.drop (n + 1) = ys := by
  have e : (xs.drop n)[0]? = some y := by rw [h]; rfl
  rw [List.getElem?_drop] at e
  refine ⟨e, ?_⟩
  rw [← List.drop_drop, h]
  rfl
theorem drop_take {α : Type} {xs ys zs : List α} {n : Nat} (h : xs.drop n = ys ++ zs) : n + ys.length ≤ xs.length ∨ ys = [] := by
  by_cases e : ys = []
  · exact .inr e
  · have hl : (xs.drop n).length = ys.length + zs.length := by rw [h, List.length_append]
    rw [List.length_drop] at hl
    have : 0 < ys.length := List.length_pos_iff.mpr e
    exact .inl (by omega)
theorem drop_take' {α : Type} {xs ys zs : List α} {n : Nat} (h : xs.drop n = ys ++ zs) : (xs.drop n).take ys.length = ys ∧ xs.drop (n + ys.length) = zs := by
  refine ⟨by rw [h, List.take_left'] <;> rfl, ?_⟩
  rw [← List.drop_drop, h, List.drop_left' rfl]
/-- ws: the words; what stands at n -/
structure RdAt (C : Addr) (H : Hp) (p a dx : Addr) (n : Nat) (ws : List Int) : Prop where
  ob : H p = some (.ins C dx (wfl a (n : Int)))
  li : H a = some (.lst (ws.map V.int))
  sm : ws.length ≤ 100000
theorem RdAt.ap {C : Addr} {H : Hp} {p a dx : Addr} {n : Nat} {ws : List Int} (r : RdAt C H p a dx n ws) : a ≠ p := ne_of r.li r.ob (by intro z; cases z)
theorem RdAt.next {C : Addr} {H H' : Hp} {p a dx : Addr} {n m : Nat} {ws : List Int} (r : RdAt C H p a dx n ws) (k : Kp [p] H H') (h : H' p = some (.ins C dx (wfl a (m : Int)))) : RdAt C H' p a dx m ws := ⟨h, k.out _ _ (nin_one r.ap) r.li, r.sm⟩
theorem RdAt.ex {C : Addr} {H H' : Hp} {p a dx : Addr} {n : Nat} {ws : List Int} (r : RdAt C H p a dx n ws) (k : Ex H H') : RdAt C H' p a dx n ws := ⟨k _ _ r.ob, k _ _ r.li, r.sm⟩
/-- one word taken -/
theorem t_take {p a dx : Addr} {n : Nat} {ws rest : List Int} {i : Int} {H : Hp} {Q : VK} {E : XK} (r : RdAt C H p a dx n ws) (d : ws.drop n = i :: rest) (q : ∀ H', Kp [p] H H' → RdAt C H' p a dx (n + 1) ws → ws.drop (n + 1) = rest → Q (.int i) H') : sp_take C [.ref p] H Q E := by
  obtain ⟨d1, d2⟩ := drop_get d
  refine c_take (v := .int i) r.ob r.li (by omega) (by rw [Int.toNat_natCast, List.getElem?_map, d1]; rfl) fun H' k h => q H' k (r.next k (m := n + 1) h) d2
theorem t_many {p a dx : Addr} {n : Nat} {ws rest is : List Int} {m : Int} {H : Hp} {Q : VK} {E : XK} (r : RdAt C H p a dx n ws) (d : ws.drop n = is ++ rest) (hm : m = (is.length : Nat)) (hn : n ≤ ws.length) (q : ∀ H' l, H l = none → Kp [p] H H' → H' l = some (.lst (is.map V.int)) → RdAt C H' p a dx (n + is.length) ws → ws.drop (n + is.length) = rest → Q (.ref l) H') : sp_many C [.ref p, .int m] H Q E := by
  subst hm
  obtain ⟨d1, d2⟩ := drop_take' d
  have hl : (ws.drop n).length = is.length + rest.length := by rw [d, List.length_append]
  rw [List.length_drop] at hl
  have := r.sm
  refine c_many r.ob r.li (m := is.length) (by rw [List.length_map]; omega) (by rw [List.length_map]; omega) fun H' l hl k e h => q H' l hl k ?_ (r.next k (m := n + is.length) h) d2
  rw [e, ← List.map_drop, ← List.map_take, d1]
def sp_row (C : Addr) : Sp := fun vs H Q _ => ∃ (p a dx : Addr) (n : Nat) (ws rest : List Int) (r : Int × Int × Int) (M : List Addr), vs = [.ref p] ∧ RdAt C H p a dx n ws ∧ ws.drop n = eRow r ++ rest ∧ n ≤ ws.length ∧ Mo M H ∧ ∀ H' v, Kp [p] H H' → RdAt C H' p a dx (n + 3) ws → ws.drop (n + 3) = rest → DpM M H' v (dRow r) → Q v H'
def sp_br (C : Addr) : Sp := fun vs H Q _ => ∃ (p a dx : Addr) (n : Nat) (ws rest : List Int) (r : Int × List Int) (M : List Addr), vs = [.ref p] ∧ RdAt C H p a dx n ws ∧ ws.drop n = eBr r ++ rest ∧ n ≤ ws.length ∧ Mo M H ∧ p ∈ M ∧ ∀ H' v, Kp [p] H H' → RdAt C H' p a dx (n + (eBr r).length) ws → ws.drop (n + (eBr r).length) = rest → DpM M H' v (dBr r) → Q v H'
def sp_ins (C : Addr) : Sp := fun vs H Q _ => ∃ (p a dx : Addr) (n : Nat) (ws rest : List Int) (i : Ins) (M : List Addr), vs = [.ref p] ∧ RdAt C H p a dx n ws ∧ ws.drop n = i.enc ++ rest ∧ n ≤ ws.length ∧ i.ok ∧ Mo M H ∧ p ∈ M ∧ ∀ H' v, Kp [p] H H' → RdAt C H' p a dx (n + i.enc.length) ws → ws.drop (n + i.enc.length) = rest → DpM M H' v i.data → Q v H'
theorem ok_row (T : Glo K w mg) (D : Dn K mg "take_row" s_take_row p_take_row) (G_Words_take_many : MetC P w K mg base C "take_many" 3 p_Words_take_many (sp_many C)) : Cal P w K mg base "take_row" 4 p_take_row (sp_row C) := by
  refine D.ok sc_take_row (fun vs H Q E h => ?_) (fun f cdv A outer s H vs Q E hr h => ?_)
  · obtain ⟨_, _, _, _, _, _, _, _, rfl, _⟩ := h
    rfl
  obtain ⟨p, a, dx, n, ws, rest, ⟨r1, r2, r3⟩, M, rfl, ra, hd, hn, mo, q⟩ := h
  have hob := ra.ob
  simp only [wfl] at hob
  refine ⟨_, (pss_cons (ps_asg (pe_mtC G_Words_take_many (hr.mono (by walk_at "lev")) (pv 0) (pa_cons (pe_globC rfl T.c_ROW) pa_nil)) (pg_lst rfl (pgs_cons (pg_name (i := 1) sc_take_row.nd rfl (by first | exact Or.inl rfl | exact Or.inr rfl)) (pgs_cons (pg_name (i := 2) sc_take_row.nd rfl (by first | exact Or.inl rfl | exact Or.inr rfl)) (pgs_cons (pg_name (i := 3) sc_take_row.nd rfl (by first | exact Or.inl rfl | exact Or.inr rfl)) pgs_nil))))) (pss_one (ps_ret (pe_tup (pa_cons (pv 1) (pa_cons (pv 2) (pa_cons (pv 3) pa_nil))))))), ?_⟩
  try dsimp only [cxOf, Cx.nox]
  repeat' walk_at "st"
  refine t_many ra hd (by rfl) hn (fun H1 l hl k1 h1 ra1 hd1 => ?_)
  refine ⟨l, [.int r1, .int r2, .int r3], rfl, sql h1, rfl, ?_⟩
  repeat' walk_at "st"
  exact q _ _ (k1.trans ke.kp) (ra1.ex ke) hd1 (.tup hn (.cons (.int _) (.cons (.int _) (.cons (.int _) .nil))))
theorem ok_br (T : Glo K w mg) (D : Dn K mg "take_branch" s_take_branch p_take_branch) (G_Words_take : MetC P w K mg base C "take" 2 p_Words_take (sp_take C)) (G_Words_take_many : MetC P w K mg base C "take_many" 3 p_Words_take_many (sp_many C)) : Cal P w K mg base "take_branch" 4 p_take_branch (sp_br C) := by
  refine D.ok sc_take_branch (fun vs H Q E h => ?_) (fun f cdv A outer s H vs Q E hr h => ?_)
  · obtain ⟨_, _, _, _, _, _, _, _, rfl, _⟩ := h
    rfl
  obtain ⟨p, a, dx, n, ws, rest, ⟨t, xs⟩, M, rfl, ra, hd, hn, mo, mp, q⟩ := h
  have hob := ra.ob
  simp only [wfl] at hob
  refine ⟨_, (pss_cons (ps_set (i := 1) sc_take_branch.nd rfl (by first | exact Or.inl rfl | exact Or.inr rfl) (pe_mtC0 G_Words_take (hr.mono (by walk_at "lev")) (pv 0))) (pss_one (ps_ret (pe_tup (pa_cons (pv 1) (pa_cons (pe_mtC G_Words_take_many (hr.mono (by walk_at "lev")) (pv 0) (pa_cons (pe_mtC0 G_Words_take (hr.mono (by walk_at "lev")) (pv 0)) pa_nil)) pa_nil)))))), ?_⟩
  try dsimp only [cxOf, Cx.nox]
  have hll : (ws.drop n).length = 2 + xs.length + rest.length := by
    rw [hd]
    simp only [eBr, List.length_append, List.length_cons]
    omega
  rw [List.length_drop] at hll
  repeat' walk_at "st"
  refine t_take (rest := (xs.length : Int) :: xs ++ rest) ra hd (fun H1 k1 ra1 hd1 => ?_)
  have hob1 := ra1.ob
  simp only [wfl] at hob1
  repeat' walk_at "st"
  refine t_take (rest := xs ++ rest) ra1 hd1 (fun H2 k2 ra2 hd2 => ?_)
  have hob2 := ra2.ob
  simp only [wfl] at hob2
  repeat' walk_at "st"
  refine t_many ra2 hd2 rfl (by omega) (fun H3 l hl k3 h3 ra3 hd3 => ?_)
  repeat' walk_at "st"
  have e1 : n + 1 + 1 + xs.length = n + (eBr (t, xs)).length := by simp only [eBr, List.length_cons]; omega
  rw [e1] at ra3 hd3
  have nl : l ∉ M := (mo_kp1 (k1.trans k2) ra2.ob mo).new hl
  exact q _ _ (((k1.trans k2).trans k3).trans ke.kp) (ra3.ex ke) hd3 (.tup hn (.cons (.int _) (.cons (.lst nl (ke _ _ h3) (dpms_ints xs)) .nil)))
variable {C : Addr}
theorem strs_at {ys : List Str} {j : Nat} {z : Str} (h : ys[j]? = some z) : atI (ys.map V.str) (j : Nat) = some (.str z) := atI_nat (by rw [List.getElem?_map, h]; rfl)
theorem opn_cases : ∀ i, i < 17 → ∀ x : Str, OPN[i]? = some x → (x = "calc" → i = 8) ∧ (x = "either" → i = 13) ∧ (x = "fork" → i = 14) := by
  intro i hi x hx
  have key : ∀ i, i < 17 → ((OPN.getD i "") = "calc" → i = 8) ∧ ((OPN.getD i "") = "either" → i = 13) ∧ ((OPN.getD i "") = "fork" → i = 14) := by decide +kernel
  have e : OPN.getD i "" = x := by rw [List.getD_eq_getElem?_getD, hx]; rfl
  rw [← e]
  exact key i hi
theorem flat_drop {α β : Type} {f : α → List β} {xs : List α} {i : Nat} {x : α} (h : xs[i]? = some x) : (xs.drop i).flatMap f = f x ++ (xs.drop (i + 1)).flatMap f := by
  have hi := (List.getElem?_eq_some_iff.mp h).1
  have hx := (List.getElem?_eq_some_iff.mp h).2
  rw [List.drop_eq_getElem_cons hi, List.flatMap_cons, hx]
theorem flat_len {α β : Type} {f : α → List β} {b : Nat} (h : ∀ x, (f x).length = b) : ∀ xs : List α, (xs.flatMap f).length = b * xs.length
  | [] => by simp
  | x :: r => by rw [List.flatMap_cons, List.length_append, flat_len h r, h, List.length_cons, Nat.mul_succ]; omega
theorem c_row {p a dx : Addr} {n : Nat} {ws rest : List Int} {r : Int × Int × Int} {M : List Addr} {H : Hp} {Q : VK} {E : XK} (h1 : RdAt C H p a dx n ws) (h2 : ws.drop n = eRow r ++ rest) (h3 : n ≤ ws.length) (h4 : Mo M H) (q : ∀ H' v, Kp [p] H H' → RdAt C H' p a dx (n + 3) ws → ws.drop (n + 3) = rest → DpM M H' v (dRow r) → Q v H') : sp_row C [.ref p] H Q E := ⟨p, a, dx, n, ws, rest, r, M, rfl, h1, h2, h3, h4, q⟩
theorem c_br {p a dx : Addr} {n : Nat} {ws rest : List Int} {r : Int × List Int} {M : List Addr} {H : Hp} {Q : VK} {E : XK} (h1 : RdAt C H p a dx n ws) (h2 : ws.drop n = eBr r ++ rest) (h3 : n ≤ ws.length) (h4 : Mo M H) (h5 : p ∈ M) (q : ∀ H' v, Kp [p] H H' → RdAt C H' p a dx (n + (eBr r).length) ws → ws.drop (n + (eBr r).length) = rest → DpM M H' v (dBr r) → Q v H') : sp_br C [.ref p] H Q E := ⟨p, a, dx, n, ws, rest, r, M, rfl, h1, h2, h3, h4, h5, q⟩
theorem c_ins {p a dx : Addr} {n : Nat} {ws rest : List Int} {i : Ins} {M : List Addr} {H : Hp} {Q : VK} {E : XK} (h1 : RdAt C H p a dx n ws) (h2 : ws.drop n = i.enc ++ rest) (h3 : n ≤ ws.length) (h4 : i.ok) (h5 : Mo M H) (h6 : p ∈ M) (q : ∀ H' v, Kp [p] H H' → RdAt C H' p a dx (n + i.enc.length) ws → ws.drop (n + i.enc.length) = rest → DpM M H' v i.data → Q v H') : sp_ins C [.ref p] H Q E := ⟨p, a, dx, n, ws, rest, i, M, rfl, h1, h2, h3, h4, h5, h6, q⟩
theorem q_catT {K : PySem.W.Frag} {H : Hp} {Q : VK} {a b : Addr} {x : V} {xs ys : List V} (h1 : H a = some (.tup (x :: xs))) (h2 : H b = some (.tup ys)) (hz : xs.length + 1 + ys.length ≤ 100000) (q : ∀ p Hn, Ex H Hn → Hn p = some (.tup (x :: xs ++ ys)) → Q (.ref p) Hn) : rAddA K (.ref a) (.ref b) H Q := by
  refine .inr (.inr (.inr ⟨a, b, x :: xs, ys, rfl, rfl, sqt h1, sqt h2, (fun z => by cases z), sl1000 (by rw [List.length_cons]; exact hz), fun e => ?_, fun _ p hp => q p _ (Ex.mk hp rfl) upd_same⟩))
  subst e
  refine q a H (Ex.refl H) ?_
  rw [List.append_nil]
  exact h1
theorem ok_ins (T : Glo K w mg) (D : Dn K mg "take_instruction" s_take_instruction p_take_instruction) (W : WdK K C) (G_Words_take : MetC P w K mg base C "take" 2 p_Words_take (sp_take C)) (G_Words_take_many : MetC P w K mg base C "take_many" 3 p_Words_take_many (sp_many C))
    (G_take_row : Cal P w K mg base "take_row" 4 p_take_row (sp_row C)) (G_take_branch : Cal P w K mg base "take_branch" 4 p_take_branch (sp_br C)) : Cal P w K mg base "take_instruction" 5 p_take_instruction (sp_ins C) := by
  have hc := W.cl
  have h1 := W.nW
  have h2 := W.nA
  obtain ⟨aN, g_NAMES, tN⟩ := T.c_NAMES
  obtain ⟨aO, g_OPERATORS, tO⟩ := T.c_OPERATORS
  obtain ⟨aM, g_NUMBERS, tM⟩ := T.c_NUMBERS
  refine D.ok sc_take_instruction (fun vs H Q E h => ?_) (fun f cdv A outer s H vs Q E hr h => ?_)
  · obtain ⟨_, _, _, _, _, _, _, _, rfl, _⟩ := h
    rfl
  obtain ⟨pL, a, dx, n, ws, rest, i, M, rfl, ra, hd, hnn, ok, mo, mp, q⟩ := h
  have hob := ra.ob
  simp only [wfl] at hob
  have sN : SqT K H aN (OPN.map V.str) := tN.sq
  have lN : (OPN.map V.str).length = 17 := rfl
  have lO : (OPS.map V.str).length = 11 := rfl
  refine ⟨_, (pss_cons (ps_set (i := 1) sc_take_instruction.nd rfl (by first | exact Or.inl rfl | exact Or.inr rfl) (pe_fld (pv 0) rfl)) (pss_cons (ps_set (i := 2) sc_take_instruction.nd rfl (by first | exact Or.inl rfl | exact Or.inr rfl) (pe_mtC0 G_Words_take (hr.mono (by walk_at "lev")) (pv 0))) (pss_cons (ps_if (pt_cmpR op_ge (pv 2) (pe_callB call_lenA rfl T.n_len (by decide +kernel) (pa_cons (pe_globR rfl g_NAMES) pa_nil)) (nomark _)) (pss_one ps_never) pss_nil) (pss_cons (ps_set (i := 3) sc_take_instruction.nd rfl (by first | exact Or.inl rfl | exact Or.inr rfl) (pe_ix ix_seq (pe_globR rfl g_NAMES) (pv 2) (fun _ _ => rfl))) (pss_cons (ps_if (pt_cmpR (op_eqA (hu64 hr)) (pv 3) pe_str (nomark _)) (pss_cons (ps_set (i := 4) sc_take_instruction.nd rfl (by first | exact Or.inl rfl | exact Or.inr rfl) (pe_mtC0 G_Words_take (hr.mono (by walk_at "lev")) (pv 0))) (pss_cons (ps_if (pt_cmpR op_ge (pv 4) (pe_callB call_lenA rfl T.n_len (by decide +kernel) (pa_cons (pe_globR rfl g_OPERATORS) pa_nil)) (nomark _)) (pss_one ps_never) pss_nil) (pss_one (ps_ret (pe_tup (pa_cons pe_str (pa_cons (pe_ix ix_seq (pe_globR rfl g_OPERATORS) (pv 4) (fun _ _ => rfl)) pa_nil))))))) pss_nil) (pss_cons (ps_if (pt_cmpR (op_eqA (hu64 hr)) (pv 3) pe_str (nomark _)) (pss_one (ps_ret (pe_tup (pa_cons pe_str (pa_cons (pe_lc (own := [("_", 5)]) (tt := tYes) rfl sc_take_instruction.nd (pi_range1 rfl T.n_range (pa_cons (pe_mtC0 G_Words_take (hr.mono (by walk_at "lev")) (pv 0)) pa_nil)) (blkOk_by (N := ["left", "first", "opcode", "name", "operator", "_"]) (sc := defScope s_take_instruction) (by decide +kernel)) (fun _ _ _ _ _ => (pg_name (i := 5) sc_take_instruction.nd rfl (by first | exact Or.inl rfl | exact Or.inr rfl))) (fun _ _ _ _ _ => pts_nil) (fun _ _ _ _ _ => (pe_cal G_take_row (hr.mono (by walk_at "lev")) rfl (pa_cons (pv 0) pa_nil)))) pa_nil))))) pss_nil) (pss_cons (ps_if (pt_cmpR (op_eqA (hu64 hr)) (pv 3) pe_str (nomark _)) (pss_one (ps_ret (pe_tup (pa_cons pe_str (pa_cons (pe_lc (own := [("_", 5)]) (tt := tYes) rfl sc_take_instruction.nd (pi_range1 rfl T.n_range (pa_cons (pe_mtC0 G_Words_take (hr.mono (by walk_at "lev")) (pv 0)) pa_nil)) (blkOk_by (N := ["left", "first", "opcode", "name", "operator", "_"]) (sc := defScope s_take_instruction) (by decide +kernel)) (fun _ _ _ _ _ => (pg_name (i := 5) sc_take_instruction.nd rfl (by first | exact Or.inl rfl | exact Or.inr rfl))) (fun _ _ _ _ _ => pts_nil) (fun _ _ _ _ _ => (pe_cal G_take_branch (hr.mono (by walk_at "lev")) rfl (pa_cons (pv 0) pa_nil)))) pa_nil))))) pss_nil) (pss_one (ps_ret (pe_op op_addA (pe_tup (pa_cons (pv 3) pa_nil)) (pe_callTy call_tupA rfl T.n_tuple (by decide +kernel) (pa_cons (pe_mtC G_Words_take_many (hr.mono (by walk_at "lev")) (pv 0) (pa_cons (pe_ix ix_kdA (pe_globR rfl g_NUMBERS) (pv 3) (fun _ _ => rfl)) pa_nil)) pa_nil)))))))))))), ?_⟩
  try dsimp only [cxOf, Cx.nox]
  repeat' walk_at "st"
  have hll : (ws.drop n).length = i.enc.length + rest.length := by rw [hd, List.length_append]
  rw [List.length_drop] at hll
  have hw := ra.sm
  cases i with
  | op x ns =>
    obtain ⟨c1, c2, c3, c4, c5, c6, c7, c8⟩ := pln_ok _ ok
    simp only at c1 c2 c3 c4 c5 c6 c7 c8
    refine t_take (rest := ns ++ rest) ra hd (fun H1 k1 ra1 hd1 => ?_)
    have hob1 := ra1.ob
    simp only [wfl] at hob1
    have at4 := strs_at c4
    have sN1 : SqT K H1 aN (OPN.map V.str) := tN.sq
    repeat' walk_at "st"
    all_goals first | contradiction | skip
    refine q_kd (tM _ _ ok) ?_
    repeat' walk_at "st"
    have ra2 := ra1.ex ke
    simp only [Ins.enc, List.length_cons] at hll
    refine t_many ra2 hd1 rfl (by omega) (fun H2 l hl k2 h2 ra3 hd3 => ?_)
    repeat' walk_at "st"
    refine q_tupA (sql h2) (fun l2 H3 hl2 e3 h3 => ?_)
    have kt := k2.tup _ _ hn
    refine q_catT (e3 _ _ kt) h3 (by rw [List.length_map]; show 0 + 1 + ns.length ≤ _; omega) (fun l4 H4 e4 h4 => ?_)
    have en : n + 1 + ns.length = n + (Ins.op x ns).enc.length := by simp only [Ins.enc, List.length_cons]; omega
    rw [en] at ra3 hd3
    refine q _ _ ((((k1.trans ke.kp).trans k2).trans e3.kp).trans e4.kp) ((ra3.ex e3).ex e4) hd3 (.tup h4 (.cons (.str _) (dpms_ints ns)))
  | cal k =>
    have at8 := strs_at opn_kinds.1
    have atk := strs_at (ops_ok k ok).1
    have sO : SqT K H aO (OPS.map V.str) := tO.sq
    refine t_take (rest := (k : Int) :: rest) ra hd (fun H1 k1 ra1 hd1 => ?_)
    have hob1 := ra1.ob
    simp only [wfl] at hob1
    have sN1 : SqT K H1 aN (OPN.map V.str) := tN.sq
    repeat' walk_at "st"
    refine t_take (rest := rest) ra1 hd1 (fun H2 k2 ra2 hd2 => ?_)
    have sO2 : SqT K H2 aO (OPS.map V.str) := tO.sq
    have kk : (k : Int) < 11 := by have := ok; simp only [Ins.ok] at this; omega
    repeat' walk_at "st"
    all_goals first | (exfalso; omega) | skip
    exact q _ _ ((k1.trans k2).trans ke.kp) (ra2.ex ke) hd2 (.tup hn (.cons (.str _) (.cons (.str _) .nil)))
  | alt rows =>
    have at13 := strs_at opn_kinds.2.2.1
    refine t_take (rest := (rows.length : Int) :: rows.flatMap eRow ++ rest) ra hd (fun H1 k1 ra1 hd1 => ?_)
    have hob1 := ra1.ob
    simp only [wfl] at hob1
    have sN1 : SqT K H1 aN (OPN.map V.str) := tN.sq
    have lr : rows.length ≤ 100 := ok
    simp only [Ins.enc, List.length_cons] at hll
    repeat' walk_at "st"
    refine t_take (rest := rows.flatMap eRow ++ rest) ra1 hd1 (fun H2 k2 ra2 hd2 => ?_)
    repeat' walk_at "st"
    intro L hL
    have nLp : L ≠ pL := (ne_of_none ra2.ob hL).symm
    have nLa : L ≠ a := (ne_of_none ra2.li hL).symm
    refine lc_range (lo := 0) (n := ((rows.length : Nat) : Int).toNat) (fun i H' => Kp [pL] H2 H' ∧ RdAt C H' pL a dx (n + 2 + 3 * i) ws ∧ ws.drop (n + 2 + 3 * i) = (rows.drop i).flatMap eRow ++ rest ∧ ∃ vs : List V, vs.length = i ∧ H' L = some (.lst vs) ∧ DpMs (L :: M) H' vs ((rows.take i).map dRow)) ?_ ?_ ?_
    · refine ⟨kp_updF (Kp.refl _) hL, ra2.ex (ex_updF (Ex.refl _) hL), hd2, [], rfl, upd_same, .nil⟩
    · rintro i H3 hi ⟨k3, ra3, hd3, vs, lv, hv, dv⟩
      rw [Int.toNat_natCast] at hi
      have hx : rows[i]? = some rows[i] := List.getElem?_eq_getElem hi
      rw [flat_drop hx, List.append_assoc] at hd3
      refine ⟨rfl, ?_⟩
      repeat' walk_at "st"
      have m3 : Mo (L :: M) H3 := mo_add (some_ne hv) (mo_kp1 ((k1.trans k2).trans k3) ra3.ob mo)
      refine c_row ra3 hd3 (by have := (List.getElem?_eq_some_iff.mp (drop_get (y := rows[i].1) hd3).1).1; omega) m3 (fun H4 v k4 ra4 hd4 d4 => ?_)
      have hv4 := k4.out _ _ (nin_one nLp) hv
      refine ⟨_, hv4, sl1000' (by omega), kp_updF (k3.trans k4) hL, ?_, ?_, vs ++ [v], ?_, upd_same, ?_⟩
      · exact ⟨by rw [upd_ne nLp.symm]; exact ra4.ob, by rw [upd_ne nLa.symm]; exact ra4.li, ra4.sm⟩
      · exact hd4
      · rw [List.length_append, lv]
        rfl
      · have kd := kp_lst hv4 (o := .lst (vs ++ [v]))
        have e1 : ((rows.take (i + 1)).map dRow) = (rows.take i).map dRow ++ [dRow rows[i]] := by
          rw [List.take_add_one, hx, List.map_append]
          rfl
        rw [e1]
        exact dpms_app (dpms_kp kd sub_hd (dpms_kp k4 (sub_mem (List.mem_cons_of_mem _ mp)) dv)) (dpms_one (dpm_kp kd sub_hd d4))
    · rintro H3 ⟨k3, ra3, hd3, vs, lv, hv, dv⟩
      rw [Int.toNat_natCast] at ra3 hd3 dv
      rw [List.drop_length] at hd3
      rw [List.take_length] at dv
      repeat' walk_at "st"
      have nLM : L ∉ M := (mo_kp1 (k1.trans k2) ra2.ob mo).new hL
      have en : n + 2 + 3 * rows.length = n + (Ins.alt rows).enc.length := by simp only [Ins.enc, List.length_cons, flat_len (f := eRow) (b := 3) (fun _ => rfl)]; omega
      rw [en] at ra3 hd3
      exact q _ _ (((k1.trans k2).trans k3).trans ke.kp) (ra3.ex ke) hd3 (.tup hn (.cons (.str _) (.cons (.lst nLM (ke _ _ hv) (dpms_ex ke (dpms_sub sub_tl dv))) .nil)))
  | frk rows =>
    have at14 := strs_at opn_kinds.2.2.2.2.1
    refine t_take (rest := (rows.length : Int) :: rows.flatMap eBr ++ rest) ra hd (fun H1 k1 ra1 hd1 => ?_)
    have hob1 := ra1.ob
    simp only [wfl] at hob1
    have sN1 : SqT K H1 aN (OPN.map V.str) := tN.sq
    have lr : rows.length ≤ 100 := ok.1
    simp only [Ins.enc, List.length_cons] at hll
    repeat' walk_at "st"
    refine t_take (rest := rows.flatMap eBr ++ rest) ra1 hd1 (fun H2 k2 ra2 hd2 => ?_)
    repeat' walk_at "st"
    intro L hL
    have nLp : L ≠ pL := (ne_of_none ra2.ob hL).symm
    have nLa : L ≠ a := (ne_of_none ra2.li hL).symm
    refine lc_range (lo := 0) (n := ((rows.length : Nat) : Int).toNat) (fun i H' => Kp [pL] H2 H' ∧ RdAt C H' pL a dx (n + 2 + ((rows.take i).flatMap eBr).length) ws ∧ ws.drop (n + 2 + ((rows.take i).flatMap eBr).length) = (rows.drop i).flatMap eBr ++ rest ∧ ∃ vs : List V, vs.length = i ∧ H' L = some (.lst vs) ∧ DpMs (L :: M) H' vs ((rows.take i).map dBr)) ?_ ?_ ?_
    · refine ⟨kp_updF (Kp.refl _) hL, ra2.ex (ex_updF (Ex.refl _) hL), hd2, [], rfl, upd_same, .nil⟩
    · rintro i H3 hi ⟨k3, ra3, hd3, vs, lv, hv, dv⟩
      rw [Int.toNat_natCast] at hi
      have hx : rows[i]? = some rows[i] := List.getElem?_eq_getElem hi
      rw [flat_drop hx, List.append_assoc] at hd3
      refine ⟨rfl, ?_⟩
      repeat' walk_at "st"
      have m3 : Mo (L :: M) H3 := mo_add (some_ne hv) (mo_kp1 ((k1.trans k2).trans k3) ra3.ob mo)
      refine c_br ra3 hd3 (by have := (List.getElem?_eq_some_iff.mp (drop_get (y := rows[i].1) hd3).1).1; omega) m3 (List.mem_cons_of_mem _ mp) (fun H4 v k4 ra4 hd4 d4 => ?_)
      have hv4 := k4.out _ _ (nin_one nLp) hv
      have en : n + 2 + ((rows.take i).flatMap eBr).length + (eBr rows[i]).length = n + 2 + ((rows.take (i + 1)).flatMap eBr).length := by rw [flat_take hx, List.length_append]; omega
      rw [en] at ra4 hd4
      refine ⟨_, hv4, sl1000' (by omega), kp_updF (k3.trans k4) hL, ?_, ?_, vs ++ [v], ?_, upd_same, ?_⟩
      · exact ⟨by rw [upd_ne nLp.symm]; exact ra4.ob, by rw [upd_ne nLa.symm]; exact ra4.li, ra4.sm⟩
      · exact hd4
      · rw [List.length_append, lv]
        rfl
      · have kd := kp_lst hv4 (o := .lst (vs ++ [v]))
        have e1 : ((rows.take (i + 1)).map dBr) = (rows.take i).map dBr ++ [dBr rows[i]] := by
          rw [List.take_add_one, hx, List.map_append]
          rfl
        rw [e1]
        exact dpms_app (dpms_kp kd sub_hd (dpms_kp k4 (sub_mem (List.mem_cons_of_mem _ mp)) dv)) (dpms_one (dpm_kp kd sub_hd d4))
    · rintro H3 ⟨k3, ra3, hd3, vs, lv, hv, dv⟩
      rw [Int.toNat_natCast] at ra3 hd3 dv
      rw [List.drop_length] at hd3
      rw [List.take_length] at dv ra3 hd3
      repeat' walk_at "st"
      have nLM : L ∉ M := (mo_kp1 (k1.trans k2) ra2.ob mo).new hL
      have en : n + 2 + (rows.flatMap eBr).length = n + (Ins.frk rows).enc.length := by simp only [Ins.enc, List.length_cons]; omega
      rw [en] at ra3 hd3
      exact q _ _ (((k1.trans k2).trans k3).trans ke.kp) (ra3.ex ke) hd3 (.tup hn (.cons (.str _) (.cons (.lst nLM (ke _ _ hv) (dpms_ex ke (dpms_sub sub_tl dv))) .nil)))
variable {C : Addr}
theorem mo_meth0 {m : Str} {sp : Sp} {te : TE} (h : MoE te) (hs : ∀ vs H (Q Q' : VK), (∀ v H1, Q v H1 → Q' v H1) → sp vs H Q E0 → sp vs H Q' E0) : MoE (tMeth C m sp [] E0 te tNil) := fun σ H Q Q' k q => h _ _ _ _ (fun x H1 ⟨a, dx, fs, e, h1, h2, q⟩ => ⟨a, dx, fs, e, h1, h2, hs _ _ _ _ k q⟩) q
theorem mo_left : ∀ vs H (Q Q' : VK), (∀ v H1, Q v H1 → Q' v H1) → sp_left C vs H Q E0 → sp_left C vs H Q' E0 := fun vs H Q Q' k ⟨p, a, dx, n, xs, e, h1, h2, q⟩ => ⟨p, a, dx, n, xs, e, h1, h2, k _ _ q⟩
theorem mo_tB {te : TE} (h : MoE te) : MoT (tB te) := fun σ H Q Q' k q => h _ _ _ _ (fun x H1 ⟨c, e, q⟩ => ⟨c, e, k _ _ q⟩) q
def encs (code : List Ins) : List Int := code.flatMap Ins.enc
def sp_decode : Sp := fun vs H Q _ => ∃ (a : Addr) (code : List Ins), vs = [.ref a] ∧ H a = some (.lst ((encs code).map V.int)) ∧ (encs code).length ≤ 100000 ∧ code.length ≤ 1000 ∧ (∀ i ∈ code, i.ok) ∧ ∀ H' r us, Ex H H' → H r = none → H' r = some (.lst us) → DpMs [] H' us (code.map Ins.data) → Q (.ref r) H'
theorem c_decode {a : Addr} {code : List Ins} {H : Hp} {Q : VK} {E : XK} (h1 : H a = some (.lst ((encs code).map V.int))) (h2 : (encs code).length ≤ 100000) (h3 : code.length ≤ 1000) (h4 : ∀ i ∈ code, i.ok) (q : ∀ H' r us, Ex H H' → H r = none → H' r = some (.lst us) → DpMs [] H' us (code.map Ins.data) → Q (.ref r) H') : sp_decode [.ref a] H Q E := ⟨a, code, rfl, h1, h2, h3, h4, q⟩
theorem enc_pos (i : Ins) : 0 < i.enc.length := by cases i <;> simp [Ins.enc]
theorem ok_decode (T : Glo K w mg) (W : WdK K C) (D : Dn K mg "decode" s_decode p_decode) (M_Words : MakC P w K mg base "Words" C 1 p_Words___init__ (sp_init C)) (G_Words_is_left : MetC P w K mg base C "is_left" 1 p_Words_is_left (sp_left C))
    (G_take_instruction : Cal P w K mg base "take_instruction" 5 p_take_instruction (sp_ins C)) : Cal P w K mg base "decode" 6 p_decode sp_decode := by
  refine D.ok sc_decode (fun vs H Q E h => ?_) (fun f cdv A outer s H vs Q E hr h => ?_)
  · obtain ⟨_, _, rfl, _⟩ := h
    rfl
  obtain ⟨a, code, rfl, ha, hz, hcl, hok, q⟩ := h
  refine ⟨_, (pss_cons (ps_set (i := 1) sc_decode.nd rfl (by first | exact Or.inl rfl | exact Or.inr rfl) (pe_mkC M_Words (hr.mono (by walk_at "lev")) rfl (pa_cons (pv 0) pa_nil))) (pss_cons (ps_set (i := 2) sc_decode.nd rfl (by first | exact Or.inl rfl | exact Or.inr rfl) (pe_lst pa_nil)) (pss_cons (ps_while PassesOwn.never (pt_val (pe_mtC0 G_Words_is_left (hr.mono (by walk_at "lev")) (pv 1))) (pss_one (ps_expr (pe_bm PySem.F.plainAttrs_list PySem.F.slot_list_append PySem.F.type_list_append mt_append (pv 2) (pa_cons (pe_cal G_take_instruction (hr.mono (by walk_at "lev")) rfl (pa_cons (pv 1) pa_nil)) pa_nil))))) (pss_one (ps_ret (pv 2)))))), ?_⟩
  try dsimp only [cxOf, Cx.nox]
  repeat' walk_at "st"
  intro x dx nx ndx nex
  refine ⟨x, a, dx, rfl, upd_same, fun H1 h1 o1 => ⟨rfl, ?_⟩⟩
  have e1 : Ex H H1 := fun b o hb => by
    rw [o1 _ (ne_of_none hb nx), upd_ne (ne_of_none hb nx), upd_ne (ne_of_none hb ndx)]
    exact hb
  have r1 : RdAt C H1 x a dx 0 (encs code) := ⟨h1, e1 _ _ ha, hz⟩
  repeat' walk_at "st"
  have rx : H p = none := free_back e1 hp
  refine w_while (fun m σ H' => ∃ (dn rs : List Ins) (us : List V), code = dn ++ rs ∧ m = rs.length ∧ σ = [some (.ref a), some (.ref x), some (.ref p)] ∧ RdAt C H' x a dx (encs dn).length (encs code) ∧ (encs code).drop (encs dn).length = encs rs ∧ us.length = dn.length ∧ H' p = some (.lst us) ∧ DpMs [p, x] H' us (dn.map Ins.data) ∧ Ex H H') code.length ⟨[], code, [], rfl, rfl, rfl, r1.ex ke, rfl, rfl, hn, .nil, e1.trans ke⟩ ?_ ?_
  · rintro m σ H' ⟨dn, rs, us, rfl, rfl, rfl, ra, hd, lu, hu, du, e2⟩
    have ob := ra.ob
    simp only [wfl] at ob
    have lz : (encs (dn ++ rs)).length = (encs dn).length + (encs rs).length := by unfold encs; rw [List.flatMap_append, List.length_append]
    repeat' walk_at "st"
    refine c_left ra.ob ra.li ?_
    cases rs with
    | nil =>
      rw [decide_eq_false (by rw [List.length_map, lz]; simp [encs])]
      repeat' walk_at "st"
      refine q _ _ _ e2 rx hu ?_
      rw [List.append_nil]
      exact dpms_sub (fun _ z => absurd z List.not_mem_nil) du
    | cons i rs =>
      have hp1 := enc_pos i
      have le : (encs (i :: rs)).length = i.enc.length + (encs rs).length := by unfold encs; rw [List.flatMap_cons, List.length_append]
      rw [decide_eq_true (by rw [List.length_map, lz]; omega)]
      repeat' walk_at "st"
      refine c_ins (i := i) (rest := encs rs) (M := [p, x]) ra (by rw [hd]; unfold encs; rw [List.flatMap_cons]) (by omega) (hok i (by simp)) ?_ (by simp) (fun H4 v k4 ra4 hd4 d4 => ?_)
      · intro y hy
        simp only [List.mem_cons, List.not_mem_nil, or_false] at hy
        rcases hy with rfl | rfl
        · exact some_ne hu
        · exact some_ne ra.ob
      have npx : p ≠ x := ne_of hu ra.ob (by intro z; cases z)
      have npa : p ≠ a := fun z => by rw [z] at rx; rw [rx] at ha; cases ha
      have hu4 := k4.out _ _ (nin_one npx) hu
      have lcd : us.length < 100000 := by rw [lu]; rw [List.length_append] at hcl; omega
      repeat' walk_at "st"
      refine q_append hu4 lcd ?_
      have kd := kp_lst hu4 (o := .lst (us ++ [v]))
      have en : (encs dn).length + i.enc.length = (encs (dn ++ [i])).length := by unfold encs; rw [List.flatMap_append, List.length_append]; simp
      rw [en] at ra4 hd4
      refine ⟨rs.length, Nat.lt_succ_self _, dn ++ [i], rs, us ++ [v], by simp, rfl, rfl, ⟨by rw [upd_ne npx.symm]; exact ra4.ob, by rw [upd_ne npa.symm]; exact ra4.li, ra4.sm⟩, hd4, by simp [lu], upd_same, ?_, ?_⟩
      · rw [List.map_append]
        exact dpms_app (dpms_kp kd (fun y hy => by rw [List.mem_singleton.mp hy]; simp) (dpms_kp k4 (fun y hy => by rw [List.mem_singleton.mp hy]; simp) du)) (dpms_one (dpm_kp kd (fun y hy => by rw [List.mem_singleton.mp hy]; simp) d4))
      · exact ex_updF (kp_new k4 e2 nx) rx
  · intro σ H Q Q' hQ h
    exact mo_tB (mo_meth0 mo_var mo_left) _ _ _ _ hQ h
abbrev s__law_names : Stmt := topS 18
theorem sc__law_names : FnScope ["text"] [] (defScope s__law_names) := ⟨rfl, rfl, rfl, by decide +kernel, rfl, by decide +kernel, by decide +kernel⟩
abbrev p__law_names : List Str := []
abbrev s__law_word : Stmt := topS 19
theorem sc__law_word : FnScope ["state"] ["state"] (defScope s__law_word) := ⟨rfl, rfl, rfl, by decide +kernel, rfl, by decide +kernel, by decide +kernel⟩
abbrev p__law_word : List Str := ["state"]
abbrev s__law_instruction : Stmt := topS 20
theorem sc__law_instruction : FnScope ["state", "at", "name", "words", "many", "numbers", "operators", "k", "rows", "row", "number", "takes", "j"] ["state"] (defScope s__law_instruction) := ⟨rfl, rfl, rfl, by decide +kernel, rfl, by decide +kernel, by decide +kernel⟩
abbrev p__law_instruction : List Str := ["state"]
abbrev s_law : Stmt := topS 21
theorem sc_law : FnScope ["script", "state", "code", "words", "k", "given", "found", "instruction", "due", "told"] ["script"] (defScope s_law) := ⟨rfl, rfl, rfl, by decide +kernel, rfl, by decide +kernel, by decide +kernel⟩
abbrev p_law : List Str := ["script"]
variable {C : Addr}
def rSplitN : V → List V → Hp → VK → Prop := fun x xs H Q => ∃ a b, x = .str a ∧ xs = [.str b] ∧ (b.length == 0) = false ∧ a.length + 2 ≤ sizeLine ∧ rNewStrs (Txt.split a b) H Q
theorem mt_splitA {X : Cx} : MtR X "str.split" rSplitN := mt_split
theorem q_split {z b : Str} {l : List Str} {H : Hp} {Q : VK} (e : Txt.split z b = l) (hb : (b.length == 0) = false) (hz : z.length ≤ 1000) (q : ∀ p Hn, H p = none → Ex H Hn → Hn p = some (.lst (l.map V.str)) → Q (.ref p) Hn) : rSplitN (.str z) [.str b] H Q :=
  ⟨z, b, rfl, rfl, hb, Nat.le_trans (Nat.add_le_add_right hz 2) (by decide), fun p hp => q p _ hp (Ex.mk hp rfl) (by rw [upd_same, e])⟩
def sp_strs (l : List Str) : Sp := fun vs H Q _ => vs = [] ∧ ∀ p Hn, H p = none → Ex H Hn → Hn p = some (.lst (l.map V.str)) → Q (.ref p) Hn
theorem c_strs {l : List Str} {H : Hp} {Q : VK} {E : XK} (q : ∀ p Hn, H p = none → Ex H Hn → Hn p = some (.lst (l.map V.str)) → Q (.ref p) Hn) : sp_strs l [] H Q E := ⟨rfl, q⟩
theorem ok_names (T : Glo K w mg) (D : Dn K mg "_law_names" s__law_names p__law_names) : Cal P w K mg base "_law_names" 1 p__law_names (sp_strs OPN) := by
  refine D.ok sc__law_names (fun vs H Q E h => ?_) (fun f cdv A outer s H vs Q E hr h => ?_)
  · obtain ⟨rfl, _⟩ := h
    rfl
  obtain ⟨rfl, q⟩ := h
  refine ⟨_, (pss_cons (ps_set (i := 0) sc__law_names.nd rfl (by first | exact Or.inl rfl | exact Or.inr rfl) pe_str) (pss_one (ps_ret (pe_bm PySem.F.plainAttrs_str PySem.F.slot_str_split PySem.F.type_str_split mt_splitA (pv 0) (pa_cons pe_str pa_nil))))), ?_⟩
  try dsimp only [cxOf, Cx.nox]
  repeat' walk_at "st"
  refine ⟨rfl, ?_⟩
  repeat' walk_at "st"
  exact q_split (by decide +kernel) rfl (by decide +kernel) q
def sp_word : Sp := fun vs H Q _ => ∃ (st c : Addr), vs = [.ref st] ∧ StOk st c H ∧ ∀ (k : Int) (H' : Hp), Kp [st, c] H H' → StOk st c H' → Q (.int k) H'
theorem c_word {st c : Addr} {H : Hp} {Q : VK} {E : XK} (h1 : StOk st c H) (q : ∀ (k : Int) (H' : Hp), Kp [st, c] H H' → StOk st c H' → Q (.int k) H') : sp_word [.ref st] H Q E := ⟨st, c, rfl, h1, q⟩
theorem ok_word (T : Glo K w mg) (D : Dn K mg "_law_word" s__law_word p__law_word) (G__law_draw : Cal P w K mg base "_law_draw" 1 p__law_draw sp_draw) (G__law_pick : Cal P w K mg base "_law_pick" 2 p__law_pick (sp_pick K)) : Cal P w K mg base "_law_word" 3 p__law_word sp_word := by
  refine D.ok sc__law_word (fun vs H Q E h => ?_) (fun f cdv A outer s H vs Q E hr h => ?_)
  · obtain ⟨_, _, rfl, _⟩ := h
    rfl
  obtain ⟨st, c, rfl, so, q⟩ := h
  refine ⟨_, (pss_one (ps_ret (pe_cal G__law_pick (hr.mono (by walk_at "lev")) rfl (pa_cons (pv 0) (pa_cons (pe_lst (pa_cons pe_int (pa_cons pe_int (pa_cons pe_int (pa_cons (pe_cal G__law_draw (hr.mono (by walk_at "lev")) rfl (pa_cons (pv 0) (pa_cons pe_int pa_nil))) (pa_cons (pe_cal G__law_draw (hr.mono (by walk_at "lev")) rfl (pa_cons (pv 0) (pa_cons pe_int pa_nil))) pa_nil)))))) pa_nil))))), ?_⟩
  try dsimp only [cxOf, Cx.nox]
  repeat' walk_at "st"
  have hv := List.mem_of_getElem? ej
  simp only [List.mem_cons, List.not_mem_nil, or_false] at hv
  rcases hv with rfl | rfl | rfl | rfl | rfl <;> exact q _ _ (by walk_at "kp") (by walk_at "st_ok")
set_option hygiene false in
local macro_rules | `(tactic| walk_at "i_c_word") => `(tactic| intro wk Hn ke so)
local macro_rules | `(tactic| walk_at "own") => `(tactic| (refine c_word (c := ?c) ?a ?_; (case a => walk_at "st_ok"); walk_at "i_c_word"))
local macro_rules | `(tactic| walk_at "own") => `(tactic| (refine c_strs ?_; walk_at "i_new"))
abbrev NEGS : List V := [.str "neg", .str "not", .str "end", .str "stop"]
abbrev LXS : List V := [.str "loadx", .str "storex"]
def manyOf (x : Str) : Int := if inV (.str x) NEGS = true then 0 else if inV (.str x) LXS = true then 2 else 1
theorem opn_info : ∀ j, j < 17 → (OPN.getD j "" = "calc" ∧ j = 8) ∨ (OPN.getD j "" = "either" ∧ j = 13) ∨ (OPN.getD j "" = "fork" ∧ j = 14) ∨ (OPN.getD j "" ≠ "calc" ∧ OPN.getD j "" ≠ "either" ∧ OPN.getD j "" ≠ "fork" ∧ opix (OPN.getD j "") = j ∧ (OPN.getD j "", manyOf (OPN.getD j "")) ∈ PLN) := by decide +kernel
theorem many_le (x : Str) : 0 ≤ manyOf x ∧ manyOf x ≤ 2 := by
  unfold manyOf
  split
  · decide
  · split <;> decide
theorem opn_at (j : Nat) (h : j < 17) : atI (OPN.map V.str) (j : Nat) = some (.str (OPN.getD j "")) := by
  refine strs_at ?_
  rw [List.getD_eq_getElem?_getD]
  have : j < OPN.length := h
  rw [List.getElem?_eq_getElem this]
  rfl
theorem fresh_M {M : List Addr} {st c r : Addr} {H H2 : Hp} (k : Kp [st, c] H H2) (so : StOk st c H2) (hr : H2 r = none) (mo : Mo M H) : r ∉ M := mo.new (free_backK k (st_fresh so hr) hr)
theorem st_upd {st c p : Addr} {o : HO} {H : Hp} (h : StOk st c H) (hp : p ∉ [st, c]) : StOk st c (upd H p o) := by
  obtain ⟨⟨ns, s, a, b, d⟩, n⟩ := h
  simp only [List.mem_cons, List.not_mem_nil, or_false, not_or] at hp
  exact ⟨⟨ns, s, by rw [upd_ne (Ne.symm hp.1)]; exact a, by rw [upd_ne (Ne.symm hp.2)]; exact b, d⟩, n⟩
theorem q_catL {K : PySem.W.Frag} {H : Hp} {Q : VK} {a b : Addr} {xs ys : List V} (h1 : H a = some (.lst xs)) (h2 : H b = some (.lst ys)) (hz : xs.length + ys.length ≤ 100000) (q : ∀ p Hn, H p = none → Ex H Hn → Hn p = some (.lst (xs ++ ys)) → Q (.ref p) Hn) : rAddA K (.ref a) (.ref b) H Q :=
  .inr (.inr (.inl ⟨a, b, xs, ys, rfl, rfl, h1, h2, sl1000 hz, fun p hp => q p _ hp (Ex.mk hp rfl) upd_same⟩))
theorem strs11 {k : Nat} (h : k < 11) : atI (OPS.map V.str) (k : Nat) = some (.str (OPS.getD k "")) := strs_at (ops_ok k h).1
local macro_rules | `(tactic| walk_at "nm") => `(tactic| (refine fresh_M (H2 := ?H2) (st := ?s1) (c := ?s2) ?a ?b ?c (by assumption); (case c => assumption); (case b => walk_at "st_ok"); (case a => walk_at "kp")))
set_option hygiene false in
local macro_rules | `(tactic| walk_at "frH") => `(tactic| (refine free_backK (M := [st, c]) (H' := ?H2) ?a ?b ?c; (case c => assumption); (case b => walk_at "nin"); (case a => walk_at "kp")))
theorem st_sub {M : List Addr} {st c : Addr} (ms : st ∈ M) (mc : c ∈ M) : ∀ x, x ∈ [st, c] → x ∈ M := fun x h => by
  simp only [List.mem_cons, List.not_mem_nil, or_false] at h
  rcases h with rfl | rfl
  · exact ms
  · exact mc
theorem row3 {a b d : Int} {M : List Addr} {H : Hp} {p : Addr} (h : H p = some (.tup [.int a, .int b, .int d])) : DpM M H (.ref p) (dRow (a, b, d)) := .tup h (.cons (.int _) (.cons (.int _) (.cons (.int _) .nil)))
theorem dpms_at {M : List Addr} {H : Hp} : ∀ {vs : List V} {ds : List PyData} {i : Nat} {v : V}, DpMs M H vs ds → vs[i]? = some v → ∃ d, ds[i]? = some d ∧ DpM M H v d
  | _, _, _, _, .nil, h => by simp at h
  | _, _, 0, _, .cons a t, h => by
    simp at h
    subst h
    exact ⟨_, rfl, a⟩
  | _, _, i + 1, _, .cons a t, h => by
    obtain ⟨d, h1, h2⟩ := dpms_at (i := i) t (by simpa using h)
    exact ⟨d, by simpa using h1, h2⟩
theorem dpm_br {M : List Addr} {H : Hp} {v : V} {r : Int × List Int} (h : DpM M H v (dBr r)) : ∃ a g, v = .ref a ∧ H a = some (.tup [.int r.1, .ref g]) ∧ H g = some (.lst (r.2.map V.int)) := by
  cases h with
  | tup h t =>
    cases t with
    | cons h1 t =>
      cases h1
      cases t with
      | cons h2 t =>
        cases t
        cases h2 with
        | lst n hg t2 =>
          have e := dp_ints (K := .nil) (dpms_dp t2)
          subst e
          exact ⟨_, _, rfl, h, hg⟩
def sp_linst : Sp := fun vs H Q _ => ∃ (st c : Addr) (M : List Addr), vs = [.ref st] ∧ StOk st c H ∧ Mo M H ∧ st ∈ M ∧ c ∈ M ∧ ∀ (H' : Hp) (p r : Addr) (v : V) (i : Ins), Kp [st, c] H H' → StOk st c H' → i.ok → i.enc.length ≤ 100 → H' p = some (.tup [v, .ref r]) → DpM M H' v i.data → H' r = some (.lst (i.enc.map V.int)) → r ∉ M → Q (.ref p) H'
set_option maxHeartbeats 20000000 in
theorem ok_linst (T : Glo K w mg) (D : Dn K mg "_law_instruction" s__law_instruction p__law_instruction) (G__law_draw : Cal P w K mg base "_law_draw" 1 p__law_draw sp_draw) (G__law_names : Cal P w K mg base "_law_names" 1 p__law_names (sp_strs OPN)) (G__law_word : Cal P w K mg base "_law_word" 3 p__law_word sp_word) :
    Cal P w K mg base "_law_instruction" 4 p__law_instruction sp_linst := by
  refine D.ok sc__law_instruction (fun vs H Q E h => ?_) (fun f cdv A outer s H vs Q E hr h => ?_)
  · obtain ⟨_, _, _, rfl, _⟩ := h
    rfl
  obtain ⟨st, c, M, rfl, so, mo, ms, mc, q⟩ := h
  refine ⟨_, (pss_cons (ps_set (i := 1) sc__law_instruction.nd rfl (by first | exact Or.inl rfl | exact Or.inr rfl) (pe_cal G__law_draw (hr.mono (by walk_at "lev")) rfl (pa_cons (pv 0) (pa_cons pe_int pa_nil)))) (pss_cons (ps_set (i := 2) sc__law_instruction.nd rfl (by first | exact Or.inl rfl | exact Or.inr rfl) (pe_ix ix_seq (pe_cal0 G__law_names (hr.mono (by walk_at "lev")) rfl) (pv 1) (fun _ _ => rfl))) (pss_cons (ps_set (i := 3) sc__law_instruction.nd rfl (by first | exact Or.inl rfl | exact Or.inr rfl) (pe_lst (pa_cons (pv 1) pa_nil))) (pss_cons (ps_if (pt_cmpR (op_eqA (hu64 hr)) (pv 2) pe_str (nomark _)) (pss_cons (ps_set (i := 6) sc__law_instruction.nd rfl (by first | exact Or.inl rfl | exact Or.inr rfl) (pe_lst (pa_cons pe_str (pa_cons pe_str (pa_cons pe_str (pa_cons pe_str (pa_cons pe_str (pa_cons pe_str (pa_cons pe_str (pa_cons pe_str (pa_cons pe_str (pa_cons pe_str (pa_cons pe_str pa_nil))))))))))))) (pss_cons (ps_set (i := 7) sc__law_instruction.nd rfl (by first | exact Or.inl rfl | exact Or.inr rfl) (pe_cal G__law_draw (hr.mono (by walk_at "lev")) rfl (pa_cons (pv 0) (pa_cons pe_int pa_nil)))) (pss_one (ps_ret (pe_tup (pa_cons (pe_tup (pa_cons pe_str (pa_cons (pe_ix ix_seq (pv 6) (pv 7) (fun _ _ => rfl)) pa_nil))) (pa_cons (pe_lst (pa_cons pe_int (pa_cons (pv 7) pa_nil))) pa_nil))))))) pss_nil) (pss_cons (ps_if (pt_cmpR (op_eqA (hu64 hr)) (pv 2) pe_str (nomark _)) (pss_cons (ps_setLc (i := 8) (own := [("k", 7)]) (tt := tYes) rfl sc__law_instruction.nd rfl rfl (sw_true rfl rfl rfl (by decide +kernel)) (pi_range1 rfl T.n_range (pa_cons (pe_cal G__law_draw (hr.mono (by walk_at "lev")) rfl (pa_cons (pv 0) (pa_cons pe_int pa_nil))) pa_nil)) (blkOk_by (N := ["state", "at", "name", "words", "many", "numbers", "operators", "k", "rows", "row", "number", "takes", "j"]) (sc := defScope s__law_instruction) (by decide +kernel)) (fun _ _ _ _ _ => (pg_name (i := 7) sc__law_instruction.nd rfl (by first | exact Or.inl rfl | exact Or.inr rfl))) (fun _ _ _ _ _ => pts_nil) (fun _ _ _ _ _ => (pe_tup (pa_cons (pe_cal G__law_word (hr.mono (by walk_at "lev")) rfl (pa_cons (pv 0) pa_nil)) (pa_cons (pe_cal G__law_word (hr.mono (by walk_at "lev")) rfl (pa_cons (pv 0) pa_nil)) (pa_cons (pe_cal G__law_word (hr.mono (by walk_at "lev")) rfl (pa_cons (pv 0) pa_nil)) pa_nil)))))) (pss_cons (ps_expr (pe_bm PySem.F.plainAttrs_list PySem.F.slot_list_append PySem.F.type_list_append mt_append (pv 3) (pa_cons (pe_callB call_lenA rfl T.n_len (by decide +kernel) (pa_cons (pv 8) pa_nil)) pa_nil))) (pss_cons (ps_for PassesOwn.never rfl (pi_list (pv 8)) (pg_name (i := 9) sc__law_instruction.nd rfl (by first | exact Or.inl rfl | exact Or.inr rfl)) (pss_one (ps_set (i := 3) sc__law_instruction.nd rfl (by first | exact Or.inl rfl | exact Or.inr rfl) (pe_op op_addA (pv 3) (pe_callTy call_listA rfl T.n_list (by decide +kernel) (pa_cons (pv 9) pa_nil)))))) (pss_one (ps_ret (pe_tup (pa_cons (pe_tup (pa_cons pe_str (pa_cons (pv 8) pa_nil))) (pa_cons (pv 3) pa_nil)))))))) pss_nil) (pss_cons (ps_if (pt_cmpR (op_eqA (hu64 hr)) (pv 2) pe_str (nomark _)) (pss_cons (ps_setLc (i := 8) (own := [("k", 7)]) (tt := tYes) rfl sc__law_instruction.nd rfl rfl (sw_true rfl rfl rfl (by decide +kernel)) (pi_range1 rfl T.n_range (pa_cons (pe_cal G__law_draw (hr.mono (by walk_at "lev")) rfl (pa_cons (pv 0) (pa_cons pe_int pa_nil))) pa_nil)) (blkOk_by (N := ["state", "at", "name", "words", "many", "numbers", "operators", "k", "rows", "row", "number", "takes", "j"]) (sc := defScope s__law_instruction) (by decide +kernel)) (fun _ _ _ _ _ => (pg_name (i := 7) sc__law_instruction.nd rfl (by first | exact Or.inl rfl | exact Or.inr rfl))) (fun _ _ _ _ _ => pts_nil) (fun _ _ _ _ _ => (pe_tup (pa_cons (pe_cal G__law_word (hr.mono (by walk_at "lev")) rfl (pa_cons (pv 0) pa_nil)) (pa_cons (pe_lc (own := [("j", 12)]) (tt := tYes) rfl sc__law_instruction.nd (pi_range1 rfl T.n_range (pa_cons (pe_cal G__law_draw (hr.mono (by walk_at "lev")) rfl (pa_cons (pv 0) (pa_cons pe_int pa_nil))) pa_nil)) (blkOk_by (N := ["state", "at", "name", "words", "many", "numbers", "operators", "k", "rows", "row", "number", "takes", "j"]) (by kernel_rfl)) (fun _ _ _ _ _ => (pg_name (i := 12) sc__law_instruction.nd rfl (by first | exact Or.inl rfl | exact Or.inr rfl))) (fun _ _ _ _ _ => pts_nil) (fun _ _ _ _ _ => (pe_cal G__law_word (hr.mono (by walk_at "lev")) rfl (pa_cons (pv 0) pa_nil)))) pa_nil))))) (pss_cons (ps_expr (pe_bm PySem.F.plainAttrs_list PySem.F.slot_list_append PySem.F.type_list_append mt_append (pv 3) (pa_cons (pe_callB call_lenA rfl T.n_len (by decide +kernel) (pa_cons (pv 8) pa_nil)) pa_nil))) (pss_cons (ps_for PassesOwn.never rfl (pi_list (pv 8)) (pg_tup rfl (pgs_cons (pg_name (i := 10) sc__law_instruction.nd rfl (by first | exact Or.inl rfl | exact Or.inr rfl)) (pgs_cons (pg_name (i := 11) sc__law_instruction.nd rfl (by first | exact Or.inl rfl | exact Or.inr rfl)) pgs_nil))) (pss_one (ps_set (i := 3) sc__law_instruction.nd rfl (by first | exact Or.inl rfl | exact Or.inr rfl) (pe_op op_addA (pe_op op_addA (pv 3) (pe_lst (pa_cons (pv 10) (pa_cons (pe_callB call_lenA rfl T.n_len (by decide +kernel) (pa_cons (pv 11) pa_nil)) pa_nil)))) (pv 11))))) (pss_one (ps_ret (pe_tup (pa_cons (pe_tup (pa_cons pe_str (pa_cons (pv 8) pa_nil))) (pa_cons (pv 3) pa_nil)))))))) pss_nil) (pss_cons (ps_set (i := 4) sc__law_instruction.nd rfl (by first | exact Or.inl rfl | exact Or.inr rfl) (pe_ifExp (pt_cmpR op_in_seq (pv 2) (pe_tup (pa_cons pe_str (pa_cons pe_str (pa_cons pe_str (pa_cons pe_str pa_nil))))) (by rfl)) pe_int (pe_ifExp (pt_cmpR op_in_seq (pv 2) (pe_tup (pa_cons pe_str (pa_cons pe_str pa_nil))) (by rfl)) pe_int pe_int))) (pss_cons (ps_setLc (i := 5) (own := [("k", 7)]) (tt := tYes) rfl sc__law_instruction.nd rfl rfl (sw_true rfl rfl rfl (by decide +kernel)) (pi_range1 rfl T.n_range (pa_cons (pv 4) pa_nil)) (blkOk_by (N := ["state", "at", "name", "words", "many", "numbers", "operators", "k", "rows", "row", "number", "takes", "j"]) (sc := defScope s__law_instruction) (by decide +kernel)) (fun _ _ _ _ _ => (pg_name (i := 7) sc__law_instruction.nd rfl (by first | exact Or.inl rfl | exact Or.inr rfl))) (fun _ _ _ _ _ => pts_nil) (fun _ _ _ _ _ => (pe_cal G__law_word (hr.mono (by walk_at "lev")) rfl (pa_cons (pv 0) pa_nil)))) (pss_one (ps_ret (pe_tup (pa_cons (pe_callTy call_tupA rfl T.n_tuple (by decide +kernel) (pa_cons (pe_op op_addA (pe_lst (pa_cons (pv 2) pa_nil)) (pv 5)) pa_nil)) (pa_cons (pe_op op_addA (pv 3) (pv 5)) pa_nil))))))))))))), ?_⟩
  try dsimp only [cxOf, Cx.nox]
  repeat' walk_at "st"
  obtain ⟨j, rfl⟩ := Int.eq_ofNat_of_zero_le n0
  have hj : j < 17 := by omega
  refine q_ixL (sql hn) (opn_at j hj) ?_
  have hm := many_le (OPN.getD j "")
  rcases opn_info j hj with ⟨hx, rfl⟩ | ⟨hx, rfl⟩ | ⟨hx, rfl⟩ | ⟨c1, c2, c3, c4, c5⟩
  · repeat' walk_at "st"
    obtain ⟨k, rfl⟩ := Int.eq_ofNat_of_zero_le n0
    refine q_ixL (sql (xs := OPS.map V.str) (by walk_at "lift")) (strs11 (k := k) (by omega)) ?_
    repeat' walk_at "st"
    refine q _ _ _ _ (.cal k) (by walk_at "kp") (by walk_at "st_ok") (by show k < 11; omega) (by show 2 ≤ 100; decide) (by walk_at "lift") (.tup (by walk_at "lift") (.cons (.str _) (.cons (.str _) .nil))) (by walk_at "lift") (by walk_at "nm")
  · repeat' walk_at "st"
    have kA : Kp [st, c] H Hn := by walk_at "kp"
    have nws : p ∉ [st, c] := by walk_at "nin"
    have hwA : Hn p = some (.lst [V.int (13 : Nat)]) := by exact ke.out _ _ nws hn
    have nwM : p ∉ M := by walk_at "nm"
    have nws : p ∉ [st, c] := by walk_at "nin"
    have hpH : H p = none := by walk_at "frH"
    have hs := st_sub ms mc
    have soA := so
    clear ke
    obtain ⟨m, rfl⟩ := Int.eq_ofNat_of_zero_le n0
    intro L hL
    have nL : L ∉ [st, c] := st_fresh soA hL
    have nLp : L ≠ p := (ne_of_none hwA hL).symm
    have nLM : L ∉ M := mo.new (free_backK kA nL hL)
    refine lc_range (lo := 0) (n := ((m : Nat) : Int).toNat) (fun i H2 => Kp [st, c] Hn H2 ∧ StOk st c H2 ∧ ∃ (rows : List (Int × Int × Int)) (vs : List V), rows.length = i ∧ H2 L = some (.lst vs) ∧ DpMs (p :: L :: M) H2 vs (rows.map dRow)) ?_ ?_ ?_
    · exact ⟨kp_updF (Kp.refl _) hL, st_upd soA nL, [], [], rfl, upd_same, .nil⟩
    · rintro i H2 hi ⟨k2, so2, rows, vs, lr, hv, dv⟩
      rw [Int.toNat_natCast] at hi
      have lv := dpms_len dv
      rw [List.length_map] at lv
      refine ⟨rfl, ?_⟩
      repeat' walk_at "st"
      have k5 : Kp [st, c] H2 Hn := by walk_at "kp"
      rename_i w1 _ _ _ w2 _ _ _ _ _
      have hv5 : Hn L = some (.lst vs) := by walk_at "lift"
      have kd := kp_lst hv5 (o := .lst (vs ++ [V.ref p]))
      refine ⟨vs, hv5, sl1000' (by omega), kp_updF (k2.trans k5) hL, st_upd (by walk_at "st_ok") nL, rows ++ [(w1, w2, wk)], vs ++ [.ref p], by simp [lr], upd_same, ?_⟩
      rw [List.map_append]
      exact dpms_app (dpms_kp kd (by intro x hx; simp only [List.mem_singleton] at hx; simp [hx]) (dpms_kp k5 (fun x hx => by have := hs x hx; simp [this]) dv)) (dpms_one (dpm_kp kd (by intro x hx; simp only [List.mem_singleton] at hx; simp [hx]) (row3 hn)))
    · rintro H2 ⟨k2, so2, rows, vs, lr, hv, dv⟩
      rw [Int.toNat_natCast] at lr
      have lv := dpms_len dv
      rw [List.length_map] at lv
      have hw2 : H2 p = some (.lst [V.int (13 : Nat)]) := k2.out _ _ nws hwA
      repeat' walk_at "st"
      refine q_append hw2 (by decide) ?_
      generalize hq : upd H2 p _ = H3
      have hw3 := at_new hq
      have k3 : Kp [st, c] H H3 := by rw [← hq]; exact kp_updF (kA.trans k2) hpH
      have so3 : StOk st c H3 := by rw [← hq]; exact st_upd so2 nws
      have hv3 : H3 L = some (.lst vs) := by rw [← hq, upd_ne nLp]; exact hv
      have dv3 : DpMs (p :: L :: M) H3 vs (rows.map dRow) := by rw [← hq]; exact dpms_kp (kp_lst hw2) (by intro x hx; simp only [List.mem_singleton] at hx; simp [hx]) dv
      clear hq dv hv hw2 hwA
      repeat' walk_at "st"
      refine w_list (xs := vs) (fun i σ H' => ∃ (wi : Addr) (y9 : Option V), σ = [some (.ref st), some (.int (13 : Nat)), some (.str (OPN.getD 13 "")), some (.ref wi), none, none, none, none, some (.ref L), y9, none, none, none] ∧ Ex H3 H' ∧ wi ∉ M ∧ H' wi = some (.lst ((13 :: (rows.length : Int) :: (rows.take i).flatMap eRow).map V.int))) ?_ ?_ ?_ ?_
      · refine ⟨p, none, rfl, Ex.refl _, nwM, ?_⟩
        rw [hw3, lv]
        rfl
      · rintro i σ H' _ ⟨wi, y9, rfl, e4, nw, h4⟩
        exact sql (e4 _ _ hv3)
      · rintro i y σ H' hi ⟨wi, y9, rfl, e4, nw, h4⟩
        obtain ⟨d, hd, hyd⟩ := dpa_at (K := K) (dpms_dp dv3) hi
        rw [List.getElem?_map] at hd
        obtain ⟨r, hr, rfl⟩ := Option.map_eq_some_iff.mp hd
        obtain ⟨a, zs, rfl, hz, hza⟩ := dp_tup hyd
        have ez : zs = (eRow r).map V.int := dp_ints (ns := eRow r) hza
        subst ez
        have hi' : i < rows.length := (List.getElem?_eq_some_iff.mp hr).1
        have so4 := st_ex e4 so3
        have hz' : SqT K H' a ((eRow r).map V.int) := sqt_ex e4 hz
        repeat' walk_at "st"
        have hf := flat_len (f := eRow) (b := 3) (fun _ => rfl) (rows.take i)
        rw [List.length_take] at hf
        refine q_catL (ke _ _ h4) hn ?_ ?_
        · simp only [List.length_map, List.length_cons]
          show _ + 3 ≤ _
          omega
        intro p5 H5 hp5 e5 h5
        refine ⟨p5, _, rfl, (e4.trans ke).trans e5, fresh_M ((k3.trans e4.kp).trans ke.kp) (st_ex ke so4) hp5 mo, ?_⟩
        rw [h5, flat_take hr]
        simp only [List.map_cons, List.map_append, List.cons_append]
      · rintro σ H' ⟨wi, y9, rfl, e4, nw, h4⟩
        have so4 := st_ex e4 so3
        rw [lv, List.take_length] at h4
        repeat' walk_at "st"
        have lf := flat_len (f := eRow) (b := 3) (fun _ => rfl) rows
        have kE : Kp [st, c] H3 Hn := by walk_at "kp"
        refine q _ _ _ _ (.alt rows) (k3.trans kE) (by walk_at "st_ok") (by show rows.length ≤ 100; omega) ?_ (by walk_at "lift") (.tup (by walk_at "lift") (.cons (.str _) (.cons (.lst nLM (by walk_at "lift") (dpms_sub (fun x hx => by simp [hx]) (dpms_kp kE (fun x hx => by have := hs x hx; simp [this]) dv3))) .nil))) (by walk_at "lift") nw
        simp only [Ins.enc, List.length_cons]
        omega
  · repeat' walk_at "st"
    have kA : Kp [st, c] H Hn := by walk_at "kp"
    have nws : p ∉ [st, c] := by walk_at "nin"
    have hwA : Hn p = some (.lst [V.int (14 : Nat)]) := by exact ke.out _ _ nws hn
    have nwM : p ∉ M := by walk_at "nm"
    have hpH : H p = none := by walk_at "frH"
    have hs := st_sub ms mc
    have soA := so
    clear ke
    obtain ⟨m, rfl⟩ := Int.eq_ofNat_of_zero_le n0
    intro L hL
    have nL : L ∉ [st, c] := st_fresh soA hL
    have nLp : L ≠ p := (ne_of_none hwA hL).symm
    have nLM : L ∉ M := mo.new (free_backK kA nL hL)
    refine lc_range (lo := 0) (n := ((m : Nat) : Int).toNat) (fun i H2 => Kp [st, c] Hn H2 ∧ StOk st c H2 ∧ ∃ (rows : List (Int × List Int)) (vs : List V), rows.length = i ∧ (∀ r ∈ rows, r.2.length ≤ 4) ∧ H2 L = some (.lst vs) ∧ DpMs (p :: L :: M) H2 vs (rows.map dBr)) ?_ ?_ ?_
    · exact ⟨kp_updF (Kp.refl _) hL, st_upd soA nL, [], [], rfl, (fun _ z => absurd z List.not_mem_nil), upd_same, .nil⟩
    · rintro i H2 hi ⟨k2, so2, rows, vs, lr, lq, hv, dv⟩
      rw [Int.toNat_natCast] at hi
      have lv := dpms_len dv
      rw [List.length_map] at lv
      have hw2 : H2 p = some (.lst [V.int (14 : Nat)]) := k2.out _ _ nws hwA
      refine ⟨rfl, ?_⟩
      repeat' walk_at "st"
      have kB : Kp [st, c] H2 Hn := by walk_at "kp"
      have soB := so
      have hvB : Hn L = some (.lst vs) := kB.out _ _ nL hv
      have hwB : Hn p = some (.lst [V.int (14 : Nat)]) := kB.out _ _ nws hw2
      obtain ⟨m2, rfl⟩ := Int.eq_ofNat_of_zero_le n0
      clear ke
      intro L2 hL2
      have nL2 : L2 ∉ [st, c] := st_fresh soB hL2
      have nLL : L2 ≠ L := (ne_of_none hvB hL2).symm
      have nLw : L2 ≠ p := (ne_of_none hwB hL2).symm
      have nL2M : L2 ∉ M := mo.new (free_backK ((kA.trans k2).trans kB) nL2 hL2)
      refine lc_range (lo := 0) (n := ((m2 : Nat) : Int).toNat) (fun i2 H5 => Kp [st, c] Hn H5 ∧ StOk st c H5 ∧ ∃ ns : List Int, ns.length = i2 ∧ H5 L2 = some (.lst (ns.map V.int))) ?_ ?_ ?_
      · exact ⟨kp_updF (Kp.refl _) hL2, st_upd soB nL2, [], rfl, upd_same⟩
      · rintro i2 H5 hi2 ⟨k5, so5, ns, ln, h5⟩
        rw [Int.toNat_natCast] at hi2
        refine ⟨rfl, ?_⟩
        repeat' walk_at "st"
        have k6 : Kp [st, c] H5 Hn := by walk_at "kp"
        refine ⟨ns.map V.int, by walk_at "lift", sl1000' (by rw [List.length_map]; omega), kp_updF (k5.trans k6) hL2, st_upd (by walk_at "st_ok") nL2, ns ++ [wk], by simp [ln], ?_⟩
        rw [upd_same, List.map_append]
        rfl
      · rintro H5 ⟨k5, so5, ns, ln, h5⟩
        rw [Int.toNat_natCast] at ln
        repeat' walk_at "st"
        have kC : Kp [st, c] H2 Hn := (kB.trans k5).trans ke.kp
        have hvC : Hn L = some (.lst vs) := kC.out _ _ nL hv
        have kd := kp_lst hvC (o := .lst (vs ++ [V.ref p]))
        refine ⟨vs, hvC, sl1000' (by omega), kp_updF (k2.trans kC) hL, st_upd (by walk_at "st_ok") nL, rows ++ [(wk, ns)], vs ++ [.ref p], by simp [lr], ?_, upd_same, ?_⟩
        · intro r hr
          rcases List.mem_append.mp hr with hr | hr
          · exact lq r hr
          · rw [List.mem_singleton.mp hr]
            show ns.length ≤ 4
            omega
        rw [List.map_append]
        exact dpms_app (dpms_kp kd (by intro x hx; simp only [List.mem_singleton] at hx; simp [hx]) (dpms_kp kC (fun x hx => by have := hs x hx; simp [this]) dv)) (dpms_one (dpm_kp kd (by intro x hx; simp only [List.mem_singleton] at hx; simp [hx]) (.tup hn (.cons (.int _) (.cons (.lst (by simp [nLw, nLL, nL2M]) (ke _ _ h5) (dpms_ints ns)) .nil)))))
    · rintro H2 ⟨k2, so2, rows, vs, lr, lq, hv, dv⟩
      rw [Int.toNat_natCast] at lr
      have lv := dpms_len dv
      rw [List.length_map] at lv
      have hw2 : H2 p = some (.lst [V.int (14 : Nat)]) := k2.out _ _ nws hwA
      repeat' walk_at "st"
      refine q_append hw2 (by decide) ?_
      generalize hq : upd H2 p _ = H3
      have hw3 := at_new hq
      have k3 : Kp [st, c] H H3 := by rw [← hq]; exact kp_updF (kA.trans k2) hpH
      have so3 : StOk st c H3 := by rw [← hq]; exact st_upd so2 nws
      have hv3 : H3 L = some (.lst vs) := by rw [← hq, upd_ne nLp]; exact hv
      have dv3 : DpMs (p :: L :: M) H3 vs (rows.map dBr) := by rw [← hq]; exact dpms_kp (kp_lst hw2) (by intro x hx; simp only [List.mem_singleton] at hx; simp [hx]) dv
      clear hq dv hv hw2 hwA
      have hfl : ∀ i, ((rows.take i).flatMap eBr).length ≤ 6 * 3 := fun i => by
        have h := flat_le (f := eBr) (b := 6) (rows.take i) fun x hx => by
          have := lq x (List.mem_of_mem_take hx)
          show x.2.length + 1 + 1 ≤ 6
          omega
        rw [List.length_take] at h
        have : 6 * min i rows.length ≤ 6 * 3 := Nat.mul_le_mul_left _ (by omega)
        omega
      repeat' walk_at "st"
      refine w_list (xs := vs) (fun i σ H' => ∃ (wi : Addr) (y10 y11 : Option V), σ = [some (.ref st), some (.int (14 : Nat)), some (.str (OPN.getD 14 "")), some (.ref wi), none, none, none, none, some (.ref L), none, y10, y11, none] ∧ Ex H3 H' ∧ wi ∉ M ∧ H' wi = some (.lst ((14 :: (rows.length : Int) :: (rows.take i).flatMap eBr).map V.int))) ?_ ?_ ?_ ?_
      · refine ⟨p, none, none, rfl, Ex.refl _, nwM, ?_⟩
        rw [hw3, lv]
        rfl
      · rintro i σ H' _ ⟨wi, y10, y11, rfl, e4, nw, h4⟩
        exact sql (e4 _ _ hv3)
      · rintro i y σ H' hi ⟨wi, y10, y11, rfl, e4, nw, h4⟩
        obtain ⟨d, hd, hyd⟩ := dpms_at dv3 hi
        rw [List.getElem?_map] at hd
        obtain ⟨r, hr, rfl⟩ := Option.map_eq_some_iff.mp hd
        obtain ⟨a, g, rfl, hz, hg⟩ := dpm_br hyd
        have hi' : i < rows.length := (List.getElem?_eq_some_iff.mp hr).1
        have so4 := st_ex e4 so3
        have hz' : SqT K H' a [.int r.1, .ref g] := sqt (e4 _ _ hz)
        have hg' := e4 _ _ hg
        have hl := lq r (List.mem_of_getElem? hr)
        have hf := hfl i
        repeat' walk_at "st"
        refine q_catL (ke _ _ h4) hn ?_ ?_
        · simp only [List.length_map, List.length_cons, List.length_nil]
          omega
        intro p5 H5 hp5 e5 h5
        have so5 := st_ex e5 (st_ex ke so4)
        repeat' walk_at "st"
        refine q_catL h5 (e5 _ _ (ke _ _ hg')) ?_ ?_
        · simp only [List.length_map, List.length_cons, List.length_nil, List.length_append]
          omega
        intro p6 H6 hp6 e6 h6
        refine ⟨p6, _, _, rfl, ((e4.trans ke).trans e5).trans e6, fresh_M (((k3.trans e4.kp).trans ke.kp).trans e5.kp) so5 hp6 mo, ?_⟩
        rw [h6, flat_take hr]
        simp only [eBr, List.map_cons, List.map_append, List.cons_append, List.length_map, List.append_assoc, List.nil_append]
      · rintro σ H' ⟨wi, y10, y11, rfl, e4, nw, h4⟩
        have so4 := st_ex e4 so3
        rw [lv, List.take_length] at h4
        have hf := hfl rows.length
        rw [List.take_length] at hf
        repeat' walk_at "st"
        have kE : Kp [st, c] H3 Hn := by walk_at "kp"
        refine q _ _ _ _ (.frk rows) (k3.trans kE) (by walk_at "st_ok") ⟨by omega, fun r hr => Nat.le_trans (lq r hr) (by decide)⟩ ?_ (by walk_at "lift") (.tup (by walk_at "lift") (.cons (.str _) (.cons (.lst nLM (by walk_at "lift") (dpms_sub (fun x hx => by simp [hx]) (dpms_kp kE (fun x hx => by have := hs x hx; simp [this]) dv3))) .nil))) (by walk_at "lift") nw
        simp only [Ins.enc, List.length_cons]
        omega
  · repeat' walk_at "st"
    all_goals first | contradiction | skip
    refine q_inT (sqt hn) rfl rfl ?_
    refine ⟨_, rfl, ?_⟩
    cases hA : inV (V.str (OPN.getD j "")) [V.str "neg", V.str "not", V.str "end", V.str "stop"]
    · repeat' walk_at "st"
      refine q_inT (sqt hn) rfl rfl ?_
      refine ⟨_, rfl, ?_⟩
      cases hB : inV (V.str (OPN.getD j "")) [V.str "loadx", V.str "storex"]
      · have hM : manyOf (OPN.getD j "") = 1 := by simp only [manyOf, hA, hB]; rfl
        repeat' walk_at "st"
        have soA : StOk st c Hn := by walk_at "st_ok"
        have kA : Kp [st, c] H Hn := by walk_at "kp"
        intro L hL
        have nL : L ∉ [st, c] := st_fresh soA hL
        refine lc_range (lo := 0) (n := _) (fun i H2 => Kp [st, c] Hn H2 ∧ StOk st c H2 ∧ ∃ ns : List Int, ns.length = i ∧ H2 L = some (.lst (ns.map V.int))) ?_ ?_ ?_
        · exact ⟨kp_updF (Kp.refl _) hL, st_upd soA nL, [], rfl, upd_same⟩
        · rintro i2 H5 hi2 ⟨k5, so5, ns, ln, h5⟩
          have hi3 : i2 < 3 := Nat.lt_of_lt_of_le hi2 (by decide)
          refine ⟨rfl, ?_⟩
          repeat' walk_at "st"
          have k6 : Kp [st, c] H5 Hn := by walk_at "kp"
          refine ⟨ns.map V.int, by walk_at "lift", sl1000' (by rw [List.length_map]; omega), kp_updF (k5.trans k6) hL, st_upd (by walk_at "st_ok") nL, ns ++ [wk], by simp [ln], ?_⟩
          rw [upd_same, List.map_append]
          rfl
        · rintro H2 ⟨k2, so2, ns, ln, h2⟩
          have l3 : ns.length ≤ 2 := by rw [ln]; decide
          have okI : (Ins.op (OPN.getD j "") ns).ok := by
            show (_, (ns.length : Int)) ∈ PLN
            rw [show (ns.length : Int) = manyOf (OPN.getD j "") by rw [hM, ln]; rfl]
            exact c5
          repeat' walk_at "st"
          refine q_catL (xs := [V.str (OPN.getD j "")]) hn (ke _ _ h2) (by rw [List.length_map]; show 1 + ns.length ≤ _; omega) (fun p1 H3 hp1 e1 h3 => ?_)
          repeat' walk_at "st"
          refine q_tupA (sql h3) (fun p2 H4 hp2 e2 h4 => ?_)
          repeat' walk_at "st"
          refine q_catL (xs := [V.int (j : Nat)]) (ys := ns.map V.int) (by walk_at "lift") (by walk_at "lift") (by rw [List.length_map]; show 1 + ns.length ≤ _; omega) (fun p3 H5 hp3 e3 h5 => ?_)
          have so6 : StOk st c H4 := by walk_at "st_ok"
          have k6 : Kp [st, c] H H4 := by walk_at "kp"
          repeat' walk_at "st"
          have k7 : Kp [st, c] H Hn := (k6.trans e3.kp).trans ke.kp
          refine q _ _ _ _ (.op (OPN.getD j "") ns) k7 (by walk_at "st_ok") okI (by show ns.length + 1 ≤ 100; omega) hn (.tup (by walk_at "lift") (.cons (.str _) (dpms_ints ns))) ?_ (fresh_M k6 so6 hp3 mo)
          rw [ke _ _ h5]
          simp only [Ins.enc, c4, List.map_cons]
          rfl
      · have hM : manyOf (OPN.getD j "") = 2 := by simp only [manyOf, hA, hB]; rfl
        repeat' walk_at "st"
        have soA : StOk st c Hn := by walk_at "st_ok"
        have kA : Kp [st, c] H Hn := by walk_at "kp"
        intro L hL
        have nL : L ∉ [st, c] := st_fresh soA hL
        refine lc_range (lo := 0) (n := _) (fun i H2 => Kp [st, c] Hn H2 ∧ StOk st c H2 ∧ ∃ ns : List Int, ns.length = i ∧ H2 L = some (.lst (ns.map V.int))) ?_ ?_ ?_
        · exact ⟨kp_updF (Kp.refl _) hL, st_upd soA nL, [], rfl, upd_same⟩
        · rintro i2 H5 hi2 ⟨k5, so5, ns, ln, h5⟩
          have hi3 : i2 < 3 := Nat.lt_of_lt_of_le hi2 (by decide)
          refine ⟨rfl, ?_⟩
          repeat' walk_at "st"
          have k6 : Kp [st, c] H5 Hn := by walk_at "kp"
          refine ⟨ns.map V.int, by walk_at "lift", sl1000' (by rw [List.length_map]; omega), kp_updF (k5.trans k6) hL, st_upd (by walk_at "st_ok") nL, ns ++ [wk], by simp [ln], ?_⟩
          rw [upd_same, List.map_append]
          rfl
        · rintro H2 ⟨k2, so2, ns, ln, h2⟩
          have l3 : ns.length ≤ 2 := by rw [ln]; decide
          have okI : (Ins.op (OPN.getD j "") ns).ok := by
            show (_, (ns.length : Int)) ∈ PLN
            rw [show (ns.length : Int) = manyOf (OPN.getD j "") by rw [hM, ln]; rfl]
            exact c5
          repeat' walk_at "st"
          refine q_catL (xs := [V.str (OPN.getD j "")]) hn (ke _ _ h2) (by rw [List.length_map]; show 1 + ns.length ≤ _; omega) (fun p1 H3 hp1 e1 h3 => ?_)
          repeat' walk_at "st"
          refine q_tupA (sql h3) (fun p2 H4 hp2 e2 h4 => ?_)
          repeat' walk_at "st"
          refine q_catL (xs := [V.int (j : Nat)]) (ys := ns.map V.int) (by walk_at "lift") (by walk_at "lift") (by rw [List.length_map]; show 1 + ns.length ≤ _; omega) (fun p3 H5 hp3 e3 h5 => ?_)
          have so6 : StOk st c H4 := by walk_at "st_ok"
          have k6 : Kp [st, c] H H4 := by walk_at "kp"
          repeat' walk_at "st"
          have k7 : Kp [st, c] H Hn := (k6.trans e3.kp).trans ke.kp
          refine q _ _ _ _ (.op (OPN.getD j "") ns) k7 (by walk_at "st_ok") okI (by show ns.length + 1 ≤ 100; omega) hn (.tup (by walk_at "lift") (.cons (.str _) (dpms_ints ns))) ?_ (fresh_M k6 so6 hp3 mo)
          rw [ke _ _ h5]
          simp only [Ins.enc, c4, List.map_cons]
          rfl
    · have hM : manyOf (OPN.getD j "") = 0 := by simp only [manyOf, hA]; rfl
      repeat' walk_at "st"
      have soA : StOk st c Hn := by walk_at "st_ok"
      have kA : Kp [st, c] H Hn := by walk_at "kp"
      intro L hL
      have nL : L ∉ [st, c] := st_fresh soA hL
      refine lc_range (lo := 0) (n := _) (fun i H2 => Kp [st, c] Hn H2 ∧ StOk st c H2 ∧ ∃ ns : List Int, ns.length = i ∧ H2 L = some (.lst (ns.map V.int))) ?_ ?_ ?_
      · exact ⟨kp_updF (Kp.refl _) hL, st_upd soA nL, [], rfl, upd_same⟩
      · rintro i2 H5 hi2 ⟨k5, so5, ns, ln, h5⟩
        have hi3 : i2 < 3 := Nat.lt_of_lt_of_le hi2 (by decide)
        refine ⟨rfl, ?_⟩
        repeat' walk_at "st"
        have k6 : Kp [st, c] H5 Hn := by walk_at "kp"
        refine ⟨ns.map V.int, by walk_at "lift", sl1000' (by rw [List.length_map]; omega), kp_updF (k5.trans k6) hL, st_upd (by walk_at "st_ok") nL, ns ++ [wk], by simp [ln], ?_⟩
        rw [upd_same, List.map_append]
        rfl
      · rintro H2 ⟨k2, so2, ns, ln, h2⟩
        have l3 : ns.length ≤ 2 := by rw [ln]; decide
        have okI : (Ins.op (OPN.getD j "") ns).ok := by
          show (_, (ns.length : Int)) ∈ PLN
          rw [show (ns.length : Int) = manyOf (OPN.getD j "") by rw [hM, ln]; rfl]
          exact c5
        repeat' walk_at "st"
        refine q_catL (xs := [V.str (OPN.getD j "")]) hn (ke _ _ h2) (by rw [List.length_map]; show 1 + ns.length ≤ _; omega) (fun p1 H3 hp1 e1 h3 => ?_)
        repeat' walk_at "st"
        refine q_tupA (sql h3) (fun p2 H4 hp2 e2 h4 => ?_)
        repeat' walk_at "st"
        refine q_catL (xs := [V.int (j : Nat)]) (ys := ns.map V.int) (by walk_at "lift") (by walk_at "lift") (by rw [List.length_map]; show 1 + ns.length ≤ _; omega) (fun p3 H5 hp3 e3 h5 => ?_)
        have so6 : StOk st c H4 := by walk_at "st_ok"
        have k6 : Kp [st, c] H H4 := by walk_at "kp"
        repeat' walk_at "st"
        have k7 : Kp [st, c] H Hn := (k6.trans e3.kp).trans ke.kp
        refine q _ _ _ _ (.op (OPN.getD j "") ns) k7 (by walk_at "st_ok") okI (by show ns.length + 1 ≤ 100; omega) hn (.tup (by walk_at "lift") (.cons (.str _) (dpms_ints ns))) ?_ (fresh_M k6 so6 hp3 mo)
        rw [ke _ _ h5]
        simp only [Ins.enc, c4, List.map_cons]
        rfl
variable {C : Addr}
theorem c_state {a : Addr} {ns : List Int} {H : Hp} {Q : VK} {E : XK} (h1 : SqL K H a (ns.map V.int)) (h2 : ns.length ≤ 63) (q : ∀ st c H', Ex H H' → H st = none → H c = none → StOk st c H' → Q (.ref st) H') : sp_state K [.ref a] H Q E := ⟨a, ns, rfl, h1, h2, q⟩
theorem c_linst {st c : Addr} {M : List Addr} {H : Hp} {Q : VK} {E : XK} (h1 : StOk st c H) (h2 : Mo M H) (h3 : st ∈ M) (h4 : c ∈ M) (q : ∀ (H' : Hp) (p r : Addr) (v : V) (i : Ins), Kp [st, c] H H' → StOk st c H' → i.ok → i.enc.length ≤ 100 → H' p = some (.tup [v, .ref r]) → DpM M H' v i.data → H' r = some (.lst (i.enc.map V.int)) → r ∉ M → Q (.ref p) H') : sp_linst [.ref st] H Q E := ⟨st, c, M, rfl, h1, h2, h3, h4, q⟩
def sp_law (K : PySem.W.Frag) : Sp := fun vs H Q _ => ∃ (a : Addr) (ns : List Int), vs = [.ref a] ∧ SqL K H a (ns.map V.int) ∧ ns.length ≤ 63 ∧ ∀ H', Q (.bl true) H'
theorem st_mo {st c : Addr} {H : Hp} (h : StOk st c H) : ∀ x, x ∈ [st, c] → H x ≠ none := by
  obtain ⟨⟨ns, s, a, b, d⟩, n⟩ := h
  intro x hx
  simp only [List.mem_cons, List.not_mem_nil, or_false] at hx
  rcases hx with rfl | rfl
  · exact some_ne a
  · exact some_ne b
/-! ### equal data -/
theorem ints_lay : ∀ ns : List Int, PyData.canLayAll0 (dInts ns) = true
  | [] => by simp [dInts, PyData.canLayAll0]
  | c :: r => by
    have h := ints_lay r
    simp only [dInts] at h
    simp [dInts, PyData.canLayAll0, PyData.canLay0, h]
theorem ints_depth : ∀ ns : List Int, PyData.depthAll (dInts ns) = 0
  | [] => by simp [dInts, PyData.depthAll]
  | c :: r => by
    have h := ints_depth r
    simp only [dInts] at h
    simp [dInts, PyData.depthAll, PyData.depth, h]
theorem lay_map {α : Type} {f : α → PyData} (h : ∀ x, (f x).canLay0 = true) : ∀ xs : List α, PyData.canLayAll0 (xs.map f) = true
  | [] => by simp [PyData.canLayAll0]
  | c :: r => by simp [PyData.canLayAll0, h c, lay_map h r]
theorem lay_mapM {α : Type} {f : α → PyData} : ∀ xs : List α, (∀ x ∈ xs, (f x).canLay0 = true) → PyData.canLayAll0 (xs.map f) = true
  | [], _ => by simp [PyData.canLayAll0]
  | c :: r, h => by simp [PyData.canLayAll0, h c (List.mem_cons_self ..), lay_mapM r fun x hx => h x (List.mem_cons_of_mem _ hx)]
theorem depth_map {α : Type} {f : α → PyData} {b : Nat} (h : ∀ x, (f x).depth ≤ b) : ∀ xs : List α, PyData.depthAll (xs.map f) ≤ b
  | [] => by simp [PyData.depthAll]
  | c :: r => by
    have h1 := h c
    have h2 := depth_map h r
    simp only [List.map_cons, PyData.depthAll]
    omega
theorem row_lay (r : Int × Int × Int) : (dRow r).canLay0 = true := by simp [dRow, PyData.canLay0, PyData.canLayAll0]
theorem row_depth (r : Int × Int × Int) : (dRow r).depth ≤ 1 := by simp [dRow, PyData.depth, PyData.depthAll]
theorem br_lay (r : Int × List Int) : (dBr r).canLay0 = true := by simp [dBr, PyData.canLay0, PyData.canLayAll0, ints_lay]
theorem br_depth (r : Int × List Int) : (dBr r).depth ≤ 2 := by simp [dBr, PyData.depth, PyData.depthAll, ints_depth]
theorem pln_lay : ∀ p ∈ PLN, (PyData.str p.1).canLay0 = true := by decide +kernel
theorem ops_lay : ∀ k, k < 11 → (PyData.str (OPS.getD k "")).canLay0 = true := by decide +kernel
theorem str3_lay : (PyData.str "calc").canLay0 = true ∧ (PyData.str "either").canLay0 = true ∧ (PyData.str "fork").canLay0 = true := by decide +kernel
theorem ins_lay {i : Ins} (ok : i.ok) : i.data.canLay0 = true := by
  cases i with
  | op x ns => simp only [Ins.data, PyData.canLay0, PyData.canLayAll0, ints_lay, Bool.and_true]; exact pln_lay _ ok
  | cal k =>
    have h1 := str3_lay.1
    have h2 := ops_lay k ok
    simp only [PyData.canLay0] at h1 h2
    simp only [Ins.data, PyData.canLay0, PyData.canLayAll0, h1, h2, Bool.and_self]
  | alt rows =>
    have h1 := str3_lay.2.1
    simp only [Ins.data, PyData.canLay0, PyData.canLayAll0, lay_map row_lay] at h1 ⊢
    simp [h1]
  | frk rows =>
    have h1 := str3_lay.2.2
    simp only [Ins.data, PyData.canLay0, PyData.canLayAll0, lay_map br_lay] at h1 ⊢
    simp [h1]
theorem ins_depth (i : Ins) : i.data.depth ≤ 10 := by
  cases i with
  | op x ns => simp [Ins.data, PyData.depth, PyData.depthAll, ints_depth]
  | cal k => simp [Ins.data, PyData.depth, PyData.depthAll]
  | alt rows =>
    have := depth_map row_depth rows
    simp [Ins.data, PyData.depth, PyData.depthAll]
    omega
  | frk rows =>
    have := depth_map br_depth rows
    simp [Ins.data, PyData.depth, PyData.depthAll]
    omega
theorem list_shaped {ds : List PyData} (h1 : PyData.canLayAll0 ds = true) (h2 : PyData.depthAll ds ≤ 20) : SeqAt.shaped (.list ds) = true := by
  have h3 : PyData.depthAll ds + 1 ≤ 64 := by omega
  simp [SeqAt.shaped, PyData.canLay0, PyData.depth, h1, h3]
theorem q_eqDat {K : PySem.W.Frag} {H : Hp} {Q : VK} {a b : V} {ds : List PyData} (h1 : Dp K H a (.list ds)) (h2 : Dp K H b (.list ds)) (l : PyData.canLayAll0 ds = true) (d : PyData.depthAll ds ≤ 20) (q : Q (.bl true) H) : rEqA K a b H Q :=
  .inr ⟨_, _, h1, h2, list_shaped l d, list_shaped l d, by rw [SeqAt.eqv_refl _ (by simp [PyData.canLay0, l])]; exact q⟩
theorem q_neDat {K : PySem.W.Frag} {H : Hp} {Q : VK} {a b : V} {ds : List PyData} (h1 : Dp K H a (.list ds)) (h2 : Dp K H b (.list ds)) (l : PyData.canLayAll0 ds = true) (d : PyData.depthAll ds ≤ 20) (q : Q (.bl false) H) : rNeA K a b H Q :=
  .inr ⟨_, _, h1, h2, list_shaped l d, list_shaped l d, by rw [SeqAt.eqv_refl _ (by simp [PyData.canLay0, l])]; exact q⟩
theorem ints_dpl {K : PySem.W.Frag} {H : Hp} {a : Addr} {ns : List Int} (h : H a = some (.lst (ns.map V.int))) : Dp K H (.ref a) (.list (dInts ns)) := .lst (sql h) (ints_dp ns)
theorem body_law {fd : FuncData} {fa : Addr} {F : Fun K "law" "law" s_law fa fd} (T : Glo K w mg) (G__law_state : Cal P w K mg base "_law_state" 1 p__law_state (sp_state K)) (G__law_draw : Cal P w K mg base "_law_draw" 1 p__law_draw sp_draw)
    (G__law_instruction : Cal P w K mg base "_law_instruction" 4 p__law_instruction sp_linst) (G_encode : Cal P w K mg base "encode" 1 p_encode (sp_encode K)) (G_decode : Cal P w K mg base "decode" 6 p_decode sp_decode) : FnOk P w K mg base CX0 7 fa fd ["script"] (sp_law K) := by
  refine F.ok sc_law (fun vs H Q E h => ?_) (fun cdv A outer s H vs Q E hr h => ?_)
  · obtain ⟨_, _, rfl, _⟩ := h
    rfl
  obtain ⟨a, ns, rfl, hs, hl, q⟩ := h
  refine ⟨_, (pss_cons (ps_set (i := 1) sc_law.nd rfl (by first | exact Or.inl rfl | exact Or.inr rfl) (pe_cal G__law_state (hr.mono (by walk_at "lev")) rfl (pa_cons (pv 0) pa_nil))) (pss_cons (ps_set (i := 2) sc_law.nd rfl (by first | exact Or.inl rfl | exact Or.inr rfl) (pe_lst pa_nil)) (pss_cons (ps_set (i := 3) sc_law.nd rfl (by first | exact Or.inl rfl | exact Or.inr rfl) (pe_lst pa_nil)) (pss_cons (ps_for PassesOwn.never rfl (pi_range1 rfl T.n_range (pa_cons (pe_cal G__law_draw (hr.mono (by walk_at "lev")) rfl (pa_cons (pv 1) (pa_cons pe_int pa_nil))) pa_nil)) (pg_name (i := 4) sc_law.nd rfl (by first | exact Or.inl rfl | exact Or.inr rfl)) (pss_cons (ps_asg (pe_cal G__law_instruction (hr.mono (by walk_at "lev")) rfl (pa_cons (pv 1) pa_nil)) (pg_tup rfl (pgs_cons (pg_name (i := 7) sc_law.nd rfl (by first | exact Or.inl rfl | exact Or.inr rfl)) (pgs_cons (pg_name (i := 8) sc_law.nd rfl (by first | exact Or.inl rfl | exact Or.inr rfl)) pgs_nil)))) (pss_cons (ps_set (i := 9) sc_law.nd rfl (by first | exact Or.inl rfl | exact Or.inr rfl) (pe_cal G_encode (hr.mono (by walk_at "lev")) rfl (pa_cons (pv 7) pa_nil))) (pss_cons (ps_if (PW.pt (pw_or (pt_not (pt_val (pe_callB call_isi rfl T.n_isinstance (by decide +kernel) (pa_cons (pv 9) (pa_cons (pe_ty (n := "list") rfl T.n_list (by decide +kernel)) pa_nil))))) (pw_or1 (pt_cmpR (op_neA (hu64 hr)) (pv 9) (pv 8) (nomark _))))) (pss_one (ps_ret pe_bl)) pss_nil) (pss_cons (ps_expr (pe_bm PySem.F.plainAttrs_list PySem.F.slot_list_append PySem.F.type_list_append mt_append (pv 2) (pa_cons (pv 7) pa_nil))) (pss_one (ps_set (i := 3) sc_law.nd rfl (by first | exact Or.inl rfl | exact Or.inr rfl) (pe_op op_addA (pv 3) (pv 8))))))))) (pss_cons (ps_set (i := 5) sc_law.nd rfl (by first | exact Or.inl rfl | exact Or.inr rfl) (pe_callTy call_listA rfl T.n_list (by decide +kernel) (pa_cons (pv 3) pa_nil))) (pss_cons (ps_set (i := 6) sc_law.nd rfl (by first | exact Or.inl rfl | exact Or.inr rfl) (pe_cal G_decode (hr.mono (by walk_at "lev")) rfl (pa_cons (pv 5) pa_nil))) (pss_one (ps_ret (pe_and (pe_callB call_isi rfl T.n_isinstance (by decide +kernel) (pa_cons (pv 6) (pa_cons (pe_ty (n := "list") rfl T.n_list (by decide +kernel)) pa_nil))) (pe_and (pe_cmpR (op_eqA (hu64 hr)) (pv 6) (pv 2) (nomark _)) (pe_one (pe_cmpR (op_eqA (hu64 hr)) (pv 5) (pv 3) (nomark _))))))))))))), ?_⟩
  try dsimp only [cxOf, Cx.nox]
  repeat' walk_at "st"
  refine c_state hs hl ?_
  intro st c H1 e1 hst hc so
  repeat' walk_at "st"
  rename_i so1 cl H2 hp1 k1 hn1 H3 k2
  obtain ⟨m, rfl⟩ := Int.eq_ofNat_of_zero_le n0
  have ncl : cl ∉ [st, c] := st_fresh so1 hp1
  have nw : p ∉ [st, c] := st_fresh (st_ex k1 so1) hp
  have npc : p ≠ cl := (ne_of_none hn1 hp).symm
  have hclA : Hn cl = some (.lst []) := ke.out _ _ ncl (k2 _ _ hn1)
  have hwA : Hn p = some (.lst []) := ke.out _ _ nw hn
  have sub : ∀ x, x ∈ [st, c] → x ∈ [st, c, cl] := fun x hx => by simp only [List.mem_cons, List.not_mem_nil, or_false] at hx ⊢; rcases hx with h | h <;> simp [h]
  clear ke hn hn1 k2 k1 hp hp1 n0
  refine w_rng (lo := 0) (n := ((m : Nat) : Int).toNat) (fun i σ H' => ∃ (wi : Addr) (code : List Ins) (vs : List V) (y4 y7 y8 y9 : Option V), σ = [some (.ref a), some (.ref st), some (.ref cl), some (.ref wi), y4, none, none, y7, y8, y9] ∧ code.length = i ∧ (∀ x ∈ code, x.ok) ∧ (encs code).length ≤ 100 * i ∧ StOk st c H' ∧ wi ∉ [st, c, cl] ∧ H' wi = some (.lst ((encs code).map V.int)) ∧ H' cl = some (.lst vs) ∧ DpMs [st, c, cl] H' vs (code.map Ins.data)) ?_ ?_ ?_
  · refine ⟨p, [], [], none, none, none, none, rfl, rfl, fun _ z => absurd z List.not_mem_nil, Nat.zero_le _, so, ?_, hwA, hclA, .nil⟩
    simp only [List.mem_cons, List.not_mem_nil, or_false, not_or] at nw ⊢
    exact ⟨nw.1, nw.2, npc⟩
  · rintro i σ H4 hi ⟨wi, code, vs, y4, y7, y8, y9, rfl, lc, hok, lz, so4, nwi, hwi, hv, dv⟩
    rw [Int.toNat_natCast] at hi
    have lv := dpms_len dv
    rw [List.length_map] at lv
    repeat' walk_at "st"
    have mo : Mo [st, c, cl] H4 := by
      intro x hx
      simp only [List.mem_cons, List.not_mem_nil, or_false] at hx
      rcases hx with h | h | h
      · exact st_mo so4 x (by simp [h])
      · exact st_mo so4 x (by simp [h])
      · rw [h]; exact some_ne hv
    refine c_linst (c := c) (M := [st, c, cl]) so4 mo (by simp) (by simp) (fun H5 pt r v ins k5 so5 oki le5 hpt dv5 hr5 nr => ?_)
    have wi5 := k5.out _ _ (fun z => nwi (sub _ z)) hwi
    have cl5 := k5.out _ _ ncl hv
    have ds5 := dpms_kp k5 sub dv
    repeat' walk_at "st"
    refine c_encode (dpm_dp dv5) oki (fun p6 H6 hp6 k6 h6 => ?_)
    repeat' walk_at "st"
    refine q_isi (.lst h6) (kit_ty (r := true) (by decide +kernel)) ?_
    repeat' walk_at "st"
    refine q_neDat (ints_dpl h6) (ints_dpl (k6 _ _ hr5)) (ints_lay _) (by rw [ints_depth]; omega) ?_
    repeat' walk_at "st"
    have cl6 := k6 _ _ cl5
    refine q_append cl6 (by omega) ?_
    have kd := kp_lst cl6 (o := .lst (vs ++ [v]))
    have nwc : wi ∉ [cl] := fun z => nwi (by rw [List.mem_singleton.mp z]; simp)
    have nrc : r ∉ [cl] := fun z => nr (by rw [List.mem_singleton.mp z]; simp)
    have sc : ∀ x, x ∈ [cl] → x ∈ [st, c, cl] := fun x hx => by rw [List.mem_singleton.mp hx]; simp
    repeat' walk_at "st"
    refine q_catL (kd.out _ _ nwc (k6 _ _ wi5)) (kd.out _ _ nrc (k6 _ _ hr5)) (by rw [List.length_map, List.length_map]; omega) (fun p7 H7 hp7 k7 h7 => ?_)
    have so7 : StOk st c H7 := st_ex k7 (st_upd (st_ex k6 so5) ncl)
    repeat' walk_at "st"
    have cl7 := k7 _ _ (upd_same (H := H6) (a := cl) (o := .lst (vs ++ [v])))
    refine ⟨p7, code ++ [ins], vs ++ [v], _, _, _, _, rfl, by simp [lc], ?_, ?_, so7, ?_, ?_, cl7, ?_⟩
    · intro x hx
      rcases List.mem_append.mp hx with hx | hx
      · exact hok x hx
      · rw [List.mem_singleton.mp hx]; exact oki
    · have : (encs (code ++ [ins])).length = (encs code).length + ins.enc.length := by unfold encs; rw [List.flatMap_append, List.length_append]; simp
      omega
    · have n1 : p7 ∉ [st, c] := st_fresh (st_upd (st_ex k6 so5) ncl) hp7
      have n2 : p7 ≠ cl := (ne_of_none (upd_same (H := H6) (a := cl) (o := .lst (vs ++ [v]))) hp7).symm
      simp only [List.mem_cons, List.not_mem_nil, or_false, not_or] at n1 ⊢
      exact ⟨n1.1, n1.2, n2⟩
    · rw [h7, show encs (code ++ [ins]) = encs code ++ ins.enc by unfold encs; rw [List.flatMap_append]; simp, List.map_append]
    · rw [List.map_append]
      exact dpms_ex k7 (dpms_app (dpms_kp kd sc (dpms_ex k6 ds5)) (dpms_one (dpm_kp kd sc (dpm_ex k6 dv5))))
  · rintro σ H4 ⟨wi, code, vs, y4, y7, y8, y9, rfl, lc, hok, lz, so4, nwi, hwi, hv, dv⟩
    rw [Int.toNat_natCast] at lc lz
    repeat' walk_at "st"
    refine c_decode (code := code) hn (by omega) (by omega) hok (fun H6 r us k6 hr6 h6 d6 => ?_)
    repeat' walk_at "st"
    refine q_isi (.lst h6) (kit_ty (r := true) (by decide +kernel)) ?_
    repeat' walk_at "st"
    have lay := lay_mapM code fun x hx => ins_lay (hok x hx)
    have dep := depth_map ins_depth code
    refine q_eqDat (.lst (sql h6) (dpms_dp d6)) (.lst (sql (k6 _ _ (ke _ _ hv))) (dpms_dp (dpms_ex k6 (dpms_ex ke dv)))) lay (by omega) ?_
    repeat' walk_at "st"
    refine q_eqDat (ints_dpl (k6 _ _ hn)) (ints_dpl (k6 _ _ (ke _ _ hwi))) (ints_lay _) (by rw [ints_depth]; omega) ?_
    exact q _
def chkT : List Str → List Value → Bool
  | [], [] => true
  | s :: l, .str z _ :: us => decide (z = s) && chkT l us
  | _, _ => false
theorem chkT_vals : ∀ {l : List Str} {us : List Value}, chkT l us = true → Vals (l.map V.str) us
  | [], [], _ => .nil
  | [], _ :: _, h => by simp [chkT] at h
  | s :: l, us, h => by
    unfold chkT at h
    split at h
    · next e => cases e
    · next e =>
      cases e
      rw [Bool.and_eq_true] at h
      have hz := of_decide_eq_true h.1
      subst hz
      exact .cons ⟨_, rfl⟩ (chkT_vals h.2)
    · cases h
theorem tupk_of {a : Addr} {its : Array Value} {n : Nat} {sl : Array (Option Value)} {l : List Str} (h : K.lookup a = some ⟨.type "tuple", none, .seq its n, sl⟩) (v : chkT l its.toList = true) (hl : l.length ≤ 1000) : TupK K a l := by
  have hv := chkT_vals v
  have e := Vals.length hv
  rw [List.length_map, Array.length_toList] at e
  exact ⟨_, its, n, h, rfl, rfl, rfl, sl1000 (Nat.le_trans (Nat.le_of_eq e.symm) (Nat.le_trans hl (by decide))), hv⟩
theorem dct_all {a : Addr} (h0 : KDct K w a "push" (.int 1)) (h1 : KDct K w a "load" (.int 1)) (h2 : KDct K w a "store" (.int 1)) (h3 : KDct K w a "loadx" (.int 2)) (h4 : KDct K w a "storex" (.int 2)) (h5 : KDct K w a "check" (.int 1)) (h6 : KDct K w a "neg" (.int 0)) (h7 : KDct K w a "not" (.int 0))
    (h8 : KDct K w a "jump" (.int 1)) (h9 : KDct K w a "jzero" (.int 1)) (h10 : KDct K w a "give" (.int 1)) (h11 : KDct K w a "take" (.int 1)) (h12 : KDct K w a "end" (.int 0)) (h13 : KDct K w a "stop" (.int 0)) : ∀ x n, (x, n) ∈ PLN → KDct K w a x (.int n) := by
  intro x n h
  simp only [PLN, List.mem_cons, List.not_mem_nil, or_false, Prod.mk.injEq] at h
  rcases h with ⟨rfl, rfl⟩ | ⟨rfl, rfl⟩ | ⟨rfl, rfl⟩ | ⟨rfl, rfl⟩ | ⟨rfl, rfl⟩ | ⟨rfl, rfl⟩ | ⟨rfl, rfl⟩ | ⟨rfl, rfl⟩ | ⟨rfl, rfl⟩ | ⟨rfl, rfl⟩ | ⟨rfl, rfl⟩ | ⟨rfl, rfl⟩ | ⟨rfl, rfl⟩ | ⟨rfl, rfl⟩ <;> assumption
theorem build_law {C_Words : Addr} {fd : FuncData} {fa : Addr} (F : Fun K "law" "law" s_law fa fd) (T : Glo K w mg) (D_encode : Dn K mg "encode" s_encode p_encode) (D_decode : Dn K mg "decode" s_decode p_decode) (D_take_instruction : Dn K mg "take_instruction" s_take_instruction p_take_instruction) (D_take_row : Dn K mg "take_row" s_take_row p_take_row) (D_take_branch : Dn K mg "take_branch" s_take_branch p_take_branch) (D__law_state : Dn K mg "_law_state" s__law_state p__law_state) (D__law_draw : Dn K mg "_law_draw" s__law_draw p__law_draw) (D__law_pick : Dn K mg "_law_pick" s__law_pick p__law_pick) (D__law_names : Dn K mg "_law_names" s__law_names p__law_names) (D__law_word : Dn K mg "_law_word" s__law_word p__law_word) (D__law_instruction : Dn K mg "_law_instruction" s__law_instruction p__law_instruction) (D_Words___init__ : DnI K mg "Words" "Words.__init__" C_Words s_Words___init__ p_Words___init__) (D_Words_is_left : DnM K C_Words "is_left" "Words.is_left" s_Words_is_left p_Words_is_left) (D_Words_take : DnM K C_Words "take" "Words.take" s_Words_take p_Words_take) (D_Words_take_many : DnM K C_Words "take_many" "Words.take_many" s_Words_take_many p_Words_take_many) (W : WdK K C_Words) : FnOk P w K mg base CX0 7 fa fd ["script"] (sp_law K) := by
  have dr := ok_draw (P := P) (w := w) (base := base) T D__law_draw
  have pi := ok_pick T D__law_pick dr
  have nm := ok_names (P := P) (w := w) (base := base) T D__law_names
  have wo := ok_word T D__law_word dr pi
  have li := ok_linst T D__law_instruction dr nm wo
  have en := ok_encode (P := P) (w := w) (base := base) T D_encode
  have it := ok_init (P := P) (w := w) (base := base) W D_Words___init__
  have lf := ok_left (P := P) (w := w) (base := base) T W D_Words_is_left
  have tk := ok_take T W D_Words_take lf
  have tm := ok_many T W D_Words_take_many tk
  have rw' := ok_row T D_take_row tm
  have br := ok_br T D_take_branch tk tm
  have ti := ok_ins T D_take_instruction W tk tm rw' br
  have de := ok_decode T W D_decode it lf ti
  exact body_law (F := F) T (ok_state T D__law_state) dr li en de
theorem dn_mk {h : Heap} {x : Str} {st : Stmt} {ps : List Str} {f : Addr} {oc : Value} {od an : Option Addr} {osl : Array (Option Value)} {kV doc pm cdv ct : Value} (X : K.In h) (G : h.Ns mainGlobals mg) (a : PySem.W.nsIn K mainGlobals x = some (some (.ref f)))
    (l : K.lookup f = some ⟨oc, od, .func (PySem.W.fnOf x x (defArgs st) (defBody st) (defScope st) .none kV doc pm an cdv ct), osl⟩) (c : PySem.W.codeIn K cdv x = true) (k : PySem.W.keepIn K (.ref f) = true)
    (hb : ∀ (kV doc pm : Value) (an : Option Addr) (cdv ct : Value) (us : List Value), us.length = ps.length → bindArgs (PySem.W.fnOf x x (defArgs st) (defBody st) (defScope st) .none kV doc pm an cdv ct) ⟨us, []⟩ = pure (ps.zip us)) : Dn K mg x st ps :=
  ⟨f, _, fun_mk l c k, PySem.W.mg_of X G a, (fun_mk l c k).binds hb⟩
theorem all_mk {l : PySem.W.OpenLaw} {w : World} {K : PySem.W.Frag} {h : Heap} {mg : Str → Option Value} {fa : Addr} (X : K.In h) (G : h.Ns mainGlobals mg) (hfa : mg "law" = some (.ref fa))
    {f0 : Addr} {od0 an0 : Option Addr} {sl0 : Array (Option Value)} {oc0 kV0 dc0 pm0 cd0 ct0 : Value}
    {f1 : Addr} {od1 an1 : Option Addr} {sl1 : Array (Option Value)} {oc1 kV1 dc1 pm1 cd1 ct1 : Value}
    {f2 : Addr} {od2 an2 : Option Addr} {sl2 : Array (Option Value)} {oc2 kV2 dc2 pm2 cd2 ct2 : Value}
    {f3 : Addr} {od3 an3 : Option Addr} {sl3 : Array (Option Value)} {oc3 kV3 dc3 pm3 cd3 ct3 : Value}
    {f4 : Addr} {od4 an4 : Option Addr} {sl4 : Array (Option Value)} {oc4 kV4 dc4 pm4 cd4 ct4 : Value}
    {f5 : Addr} {od5 an5 : Option Addr} {sl5 : Array (Option Value)} {oc5 kV5 dc5 pm5 cd5 ct5 : Value}
    {f6 : Addr} {od6 an6 : Option Addr} {sl6 : Array (Option Value)} {oc6 kV6 dc6 pm6 cd6 ct6 : Value}
    {f7 : Addr} {od7 an7 : Option Addr} {sl7 : Array (Option Value)} {oc7 kV7 dc7 pm7 cd7 ct7 : Value}
    {f8 : Addr} {od8 an8 : Option Addr} {sl8 : Array (Option Value)} {oc8 kV8 dc8 pm8 cd8 ct8 : Value}
    {f9 : Addr} {od9 an9 : Option Addr} {sl9 : Array (Option Value)} {oc9 kV9 dc9 pm9 cd9 ct9 : Value}
    {f10 : Addr} {od10 an10 : Option Addr} {sl10 : Array (Option Value)} {oc10 kV10 dc10 pm10 cd10 ct10 : Value}
    {f11 : Addr} {od11 an11 : Option Addr} {sl11 : Array (Option Value)} {oc11 kV11 dc11 pm11 cd11 ct11 : Value}
    {C_Words : Addr}
    {f_Words___init__ : Addr} {od_Words___init__ an_Words___init__ : Option Addr} {sl_Words___init__ : Array (Option Value)} {oc_Words___init__ kV_Words___init__ dc_Words___init__ pm_Words___init__ cd_Words___init__ ct_Words___init__ : Value}
    {f_Words_is_left : Addr} {od_Words_is_left an_Words_is_left : Option Addr} {sl_Words_is_left : Array (Option Value)} {oc_Words_is_left kV_Words_is_left dc_Words_is_left pm_Words_is_left cd_Words_is_left ct_Words_is_left : Value}
    {f_Words_take : Addr} {od_Words_take an_Words_take : Option Addr} {sl_Words_take : Array (Option Value)} {oc_Words_take kV_Words_take dc_Words_take pm_Words_take cd_Words_take ct_Words_take : Value}
    {f_Words_take_many : Addr} {od_Words_take_many an_Words_take_many : Option Addr} {sl_Words_take_many : Array (Option Value)} {oc_Words_take_many kV_Words_take_many dc_Words_take_many pm_Words_take_many cd_Words_take_many ct_Words_take_many : Value}
    (a0 : PySem.W.nsIn K mainGlobals "encode" = some (some (.ref f0))) (l0 : K.lookup f0 = some ⟨oc0, od0, .func (PySem.W.fnOf "encode" "encode" (defArgs s_encode) (defBody s_encode) (defScope s_encode) .none kV0 dc0 pm0 an0 cd0 ct0), sl0⟩) (c0 : PySem.W.codeIn K cd0 "encode" = true) (k0 : PySem.W.keepIn K (.ref f0) = true)
    (a1 : PySem.W.nsIn K mainGlobals "decode" = some (some (.ref f1))) (l1 : K.lookup f1 = some ⟨oc1, od1, .func (PySem.W.fnOf "decode" "decode" (defArgs s_decode) (defBody s_decode) (defScope s_decode) .none kV1 dc1 pm1 an1 cd1 ct1), sl1⟩) (c1 : PySem.W.codeIn K cd1 "decode" = true) (k1 : PySem.W.keepIn K (.ref f1) = true)
    (a2 : PySem.W.nsIn K mainGlobals "take_instruction" = some (some (.ref f2))) (l2 : K.lookup f2 = some ⟨oc2, od2, .func (PySem.W.fnOf "take_instruction" "take_instruction" (defArgs s_take_instruction) (defBody s_take_instruction) (defScope s_take_instruction) .none kV2 dc2 pm2 an2 cd2 ct2), sl2⟩) (c2 : PySem.W.codeIn K cd2 "take_instruction" = true) (k2 : PySem.W.keepIn K (.ref f2) = true)
    (a3 : PySem.W.nsIn K mainGlobals "take_row" = some (some (.ref f3))) (l3 : K.lookup f3 = some ⟨oc3, od3, .func (PySem.W.fnOf "take_row" "take_row" (defArgs s_take_row) (defBody s_take_row) (defScope s_take_row) .none kV3 dc3 pm3 an3 cd3 ct3), sl3⟩) (c3 : PySem.W.codeIn K cd3 "take_row" = true) (k3 : PySem.W.keepIn K (.ref f3) = true)
    (a4 : PySem.W.nsIn K mainGlobals "take_branch" = some (some (.ref f4))) (l4 : K.lookup f4 = some ⟨oc4, od4, .func (PySem.W.fnOf "take_branch" "take_branch" (defArgs s_take_branch) (defBody s_take_branch) (defScope s_take_branch) .none kV4 dc4 pm4 an4 cd4 ct4), sl4⟩) (c4 : PySem.W.codeIn K cd4 "take_branch" = true) (k4 : PySem.W.keepIn K (.ref f4) = true)
    (a5 : PySem.W.nsIn K mainGlobals "_law_state" = some (some (.ref f5))) (l5 : K.lookup f5 = some ⟨oc5, od5, .func (PySem.W.fnOf "_law_state" "_law_state" (defArgs s__law_state) (defBody s__law_state) (defScope s__law_state) .none kV5 dc5 pm5 an5 cd5 ct5), sl5⟩) (c5 : PySem.W.codeIn K cd5 "_law_state" = true) (k5 : PySem.W.keepIn K (.ref f5) = true)
    (a6 : PySem.W.nsIn K mainGlobals "_law_draw" = some (some (.ref f6))) (l6 : K.lookup f6 = some ⟨oc6, od6, .func (PySem.W.fnOf "_law_draw" "_law_draw" (defArgs s__law_draw) (defBody s__law_draw) (defScope s__law_draw) .none kV6 dc6 pm6 an6 cd6 ct6), sl6⟩) (c6 : PySem.W.codeIn K cd6 "_law_draw" = true) (k6 : PySem.W.keepIn K (.ref f6) = true)
    (a7 : PySem.W.nsIn K mainGlobals "_law_pick" = some (some (.ref f7))) (l7 : K.lookup f7 = some ⟨oc7, od7, .func (PySem.W.fnOf "_law_pick" "_law_pick" (defArgs s__law_pick) (defBody s__law_pick) (defScope s__law_pick) .none kV7 dc7 pm7 an7 cd7 ct7), sl7⟩) (c7 : PySem.W.codeIn K cd7 "_law_pick" = true) (k7 : PySem.W.keepIn K (.ref f7) = true)
    (a8 : PySem.W.nsIn K mainGlobals "_law_names" = some (some (.ref f8))) (l8 : K.lookup f8 = some ⟨oc8, od8, .func (PySem.W.fnOf "_law_names" "_law_names" (defArgs s__law_names) (defBody s__law_names) (defScope s__law_names) .none kV8 dc8 pm8 an8 cd8 ct8), sl8⟩) (c8 : PySem.W.codeIn K cd8 "_law_names" = true) (k8 : PySem.W.keepIn K (.ref f8) = true)
    (a9 : PySem.W.nsIn K mainGlobals "_law_word" = some (some (.ref f9))) (l9 : K.lookup f9 = some ⟨oc9, od9, .func (PySem.W.fnOf "_law_word" "_law_word" (defArgs s__law_word) (defBody s__law_word) (defScope s__law_word) .none kV9 dc9 pm9 an9 cd9 ct9), sl9⟩) (c9 : PySem.W.codeIn K cd9 "_law_word" = true) (k9 : PySem.W.keepIn K (.ref f9) = true)
    (a10 : PySem.W.nsIn K mainGlobals "_law_instruction" = some (some (.ref f10))) (l10 : K.lookup f10 = some ⟨oc10, od10, .func (PySem.W.fnOf "_law_instruction" "_law_instruction" (defArgs s__law_instruction) (defBody s__law_instruction) (defScope s__law_instruction) .none kV10 dc10 pm10 an10 cd10 ct10), sl10⟩) (c10 : PySem.W.codeIn K cd10 "_law_instruction" = true) (k10 : PySem.W.keepIn K (.ref f10) = true)
    (a11 : PySem.W.nsIn K mainGlobals "law" = some (some (.ref f11))) (l11 : K.lookup f11 = some ⟨oc11, od11, .func (PySem.W.fnOf "law" "law" (defArgs s_law) (defBody s_law) (defScope s_law) .none kV11 dc11 pm11 an11 cd11 ct11), sl11⟩) (c11 : PySem.W.codeIn K cd11 "law" = true) (k11 : PySem.W.keepIn K (.ref f11) = true)
    (aC_Words : PySem.W.nsIn K mainGlobals "Words" = some (some (.ref C_Words))) (pg_Words : PySem.W.plainGet K C_Words Str.empty = true) (hd_Words : PySem.W.hasDictIn K C_Words = true) (po_Words : PySem.W.plainOver K C_Words = true) (sa_Words : PySem.W.findIn K (.ref C_Words) "__setattr__" = some (some (.builtin "object.__setattr__"))) (mk_Words : PySem.W.makesIn K C_Words = true) (kc_Words : PySem.W.keepIn K (.ref C_Words) = true)
    (na_Words_words : PySem.W.findIn K (.ref C_Words) "words" = some none)
    (na_Words_at : PySem.W.findIn K (.ref C_Words) "at" = some none)
    (a_Words___init__ : PySem.W.findIn K (.ref C_Words) "__init__" = some (some (.ref f_Words___init__))) (i_Words___init__ : PySem.W.isFn K (.ref f_Words___init__) = true) (l_Words___init__ : K.lookup f_Words___init__ = some ⟨oc_Words___init__, od_Words___init__, .func (PySem.W.fnOf "__init__" "Words.__init__" (defArgs s_Words___init__) (defBody s_Words___init__) (defScope s_Words___init__) .none kV_Words___init__ dc_Words___init__ pm_Words___init__ an_Words___init__ cd_Words___init__ ct_Words___init__), sl_Words___init__⟩) (c_Words___init__ : PySem.W.codeIn K cd_Words___init__ "Words.__init__" = true) (k_Words___init__ : PySem.W.keepIn K (.ref f_Words___init__) = true)
    (a_Words_is_left : PySem.W.findIn K (.ref C_Words) "is_left" = some (some (.ref f_Words_is_left))) (i_Words_is_left : PySem.W.isFn K (.ref f_Words_is_left) = true) (l_Words_is_left : K.lookup f_Words_is_left = some ⟨oc_Words_is_left, od_Words_is_left, .func (PySem.W.fnOf "is_left" "Words.is_left" (defArgs s_Words_is_left) (defBody s_Words_is_left) (defScope s_Words_is_left) .none kV_Words_is_left dc_Words_is_left pm_Words_is_left an_Words_is_left cd_Words_is_left ct_Words_is_left), sl_Words_is_left⟩) (c_Words_is_left : PySem.W.codeIn K cd_Words_is_left "Words.is_left" = true) (k_Words_is_left : PySem.W.keepIn K (.ref f_Words_is_left) = true)
    (a_Words_take : PySem.W.findIn K (.ref C_Words) "take" = some (some (.ref f_Words_take))) (i_Words_take : PySem.W.isFn K (.ref f_Words_take) = true) (l_Words_take : K.lookup f_Words_take = some ⟨oc_Words_take, od_Words_take, .func (PySem.W.fnOf "take" "Words.take" (defArgs s_Words_take) (defBody s_Words_take) (defScope s_Words_take) .none kV_Words_take dc_Words_take pm_Words_take an_Words_take cd_Words_take ct_Words_take), sl_Words_take⟩) (c_Words_take : PySem.W.codeIn K cd_Words_take "Words.take" = true) (k_Words_take : PySem.W.keepIn K (.ref f_Words_take) = true)
    (a_Words_take_many : PySem.W.findIn K (.ref C_Words) "take_many" = some (some (.ref f_Words_take_many))) (i_Words_take_many : PySem.W.isFn K (.ref f_Words_take_many) = true) (l_Words_take_many : K.lookup f_Words_take_many = some ⟨oc_Words_take_many, od_Words_take_many, .func (PySem.W.fnOf "take_many" "Words.take_many" (defArgs s_Words_take_many) (defBody s_Words_take_many) (defScope s_Words_take_many) .none kV_Words_take_many dc_Words_take_many pm_Words_take_many an_Words_take_many cd_Words_take_many ct_Words_take_many), sl_Words_take_many⟩) (c_Words_take_many : PySem.W.codeIn K cd_Words_take_many "Words.take_many" = true) (k_Words_take_many : PySem.W.keepIn K (.ref f_Words_take_many) = true)
    (z_n_len : PySem.W.nsIn K mainGlobals "len" = some none) (z_n_int : PySem.W.nsIn K mainGlobals "int" = some none) (z_n_abs : PySem.W.nsIn K mainGlobals "abs" = some none) (z_n_range : PySem.W.nsIn K mainGlobals "range" = some none) (z_n_list : PySem.W.nsIn K mainGlobals "list" = some none) (z_n_tuple : PySem.W.nsIn K mainGlobals "tuple" = some none) (z_n_isinstance : PySem.W.nsIn K mainGlobals "isinstance" = some none) {a_c_NAMES : Addr}  {it_c_NAMES : Array Value} {n_c_NAMES : Nat} {sl_c_NAMES : Array (Option Value)} (z_c_NAMES : PySem.W.nsIn K mainGlobals "NAMES" = some (some (.ref a_c_NAMES))) (zl_c_NAMES : K.lookup a_c_NAMES = some ⟨.type "tuple", none, .seq it_c_NAMES n_c_NAMES, sl_c_NAMES⟩) (zv_c_NAMES : chkT OPN it_c_NAMES.toList = true) {a_c_OPERATORS : Addr}  {it_c_OPERATORS : Array Value} {n_c_OPERATORS : Nat} {sl_c_OPERATORS : Array (Option Value)} (z_c_OPERATORS : PySem.W.nsIn K mainGlobals "OPERATORS" = some (some (.ref a_c_OPERATORS))) (zl_c_OPERATORS : K.lookup a_c_OPERATORS = some ⟨.type "tuple", none, .seq it_c_OPERATORS n_c_OPERATORS, sl_c_OPERATORS⟩) (zv_c_OPERATORS : chkT OPS it_c_OPERATORS.toList = true) {a_c_NUMBERS : Addr} {es_c_NUMBERS : Array DictEntry} {n_c_NUMBERS : Nat} (z_c_NUMBERS : PySem.W.nsIn K mainGlobals "NUMBERS" = some (some (.ref a_c_NUMBERS))) (zl_c_NUMBERS : K.lookup a_c_NUMBERS = some ⟨.type "dict", none, .dict es_c_NUMBERS n_c_NUMBERS, #[]⟩) (zy_c_NUMBERS : PySem.W.KeysLit w.params es_c_NUMBERS.toList) {t0_c_NUMBERS : PySem.Tok} (z0_c_NUMBERS : PySem.W.nsIn K a_c_NUMBERS "push" = some (some (.int 1 t0_c_NUMBERS))) {t1_c_NUMBERS : PySem.Tok} (z1_c_NUMBERS : PySem.W.nsIn K a_c_NUMBERS "load" = some (some (.int 1 t1_c_NUMBERS))) {t2_c_NUMBERS : PySem.Tok} (z2_c_NUMBERS : PySem.W.nsIn K a_c_NUMBERS "store" = some (some (.int 1 t2_c_NUMBERS))) {t3_c_NUMBERS : PySem.Tok} (z3_c_NUMBERS : PySem.W.nsIn K a_c_NUMBERS "loadx" = some (some (.int 2 t3_c_NUMBERS))) {t4_c_NUMBERS : PySem.Tok} (z4_c_NUMBERS : PySem.W.nsIn K a_c_NUMBERS "storex" = some (some (.int 2 t4_c_NUMBERS))) {t5_c_NUMBERS : PySem.Tok} (z5_c_NUMBERS : PySem.W.nsIn K a_c_NUMBERS "check" = some (some (.int 1 t5_c_NUMBERS))) {t6_c_NUMBERS : PySem.Tok} (z6_c_NUMBERS : PySem.W.nsIn K a_c_NUMBERS "neg" = some (some (.int 0 t6_c_NUMBERS))) {t7_c_NUMBERS : PySem.Tok} (z7_c_NUMBERS : PySem.W.nsIn K a_c_NUMBERS "not" = some (some (.int 0 t7_c_NUMBERS))) {t8_c_NUMBERS : PySem.Tok} (z8_c_NUMBERS : PySem.W.nsIn K a_c_NUMBERS "jump" = some (some (.int 1 t8_c_NUMBERS))) {t9_c_NUMBERS : PySem.Tok} (z9_c_NUMBERS : PySem.W.nsIn K a_c_NUMBERS "jzero" = some (some (.int 1 t9_c_NUMBERS))) {t10_c_NUMBERS : PySem.Tok} (z10_c_NUMBERS : PySem.W.nsIn K a_c_NUMBERS "give" = some (some (.int 1 t10_c_NUMBERS))) {t11_c_NUMBERS : PySem.Tok} (z11_c_NUMBERS : PySem.W.nsIn K a_c_NUMBERS "take" = some (some (.int 1 t11_c_NUMBERS))) {t12_c_NUMBERS : PySem.Tok} (z12_c_NUMBERS : PySem.W.nsIn K a_c_NUMBERS "end" = some (some (.int 0 t12_c_NUMBERS))) {t13_c_NUMBERS : PySem.Tok} (z13_c_NUMBERS : PySem.W.nsIn K a_c_NUMBERS "stop" = some (some (.int 0 t13_c_NUMBERS))) {t_c_ROW : PySem.Tok} (z_c_ROW : PySem.W.nsIn K mainGlobals "ROW" = some (some (.int 3 t_c_ROW))) :
    ∃ fd : FuncData, (∀ (s : Shared) (v : Value), BindsTo s fd ⟨[v], []⟩ [("script", v)]) ∧ ∀ base : Heap, K.In base → base.Ns mainGlobals mg → FnOk l.prog w K mg base CX0 7 fa fd ["script"] (sp_law K) := by
  have e := hfa.symm.trans (PySem.W.mg_of X G a11)
  cases e
  have FL := fun_mk (st := s_law) l11 c11 k11
  have D_encode : Dn K mg "encode" s_encode p_encode := dn_mk X G a0 l0 c0 k0 (fun _ _ _ _ _ _ us hl => match us, hl with | [_], _ => rfl)
  have D_decode : Dn K mg "decode" s_decode p_decode := dn_mk X G a1 l1 c1 k1 (fun _ _ _ _ _ _ us hl => match us, hl with | [_], _ => rfl)
  have D_take_instruction : Dn K mg "take_instruction" s_take_instruction p_take_instruction := dn_mk X G a2 l2 c2 k2 (fun _ _ _ _ _ _ us hl => match us, hl with | [_], _ => rfl)
  have D_take_row : Dn K mg "take_row" s_take_row p_take_row := dn_mk X G a3 l3 c3 k3 (fun _ _ _ _ _ _ us hl => match us, hl with | [_], _ => rfl)
  have D_take_branch : Dn K mg "take_branch" s_take_branch p_take_branch := dn_mk X G a4 l4 c4 k4 (fun _ _ _ _ _ _ us hl => match us, hl with | [_], _ => rfl)
  have D__law_state : Dn K mg "_law_state" s__law_state p__law_state := dn_mk X G a5 l5 c5 k5 (fun _ _ _ _ _ _ us hl => match us, hl with | [_], _ => rfl)
  have D__law_draw : Dn K mg "_law_draw" s__law_draw p__law_draw := dn_mk X G a6 l6 c6 k6 (fun _ _ _ _ _ _ us hl => match us, hl with | [_, _], _ => rfl)
  have D__law_pick : Dn K mg "_law_pick" s__law_pick p__law_pick := dn_mk X G a7 l7 c7 k7 (fun _ _ _ _ _ _ us hl => match us, hl with | [_, _], _ => rfl)
  have D__law_names : Dn K mg "_law_names" s__law_names p__law_names := dn_mk X G a8 l8 c8 k8 (fun _ _ _ _ _ _ us hl => match us, hl with | [], _ => rfl)
  have D__law_word : Dn K mg "_law_word" s__law_word p__law_word := dn_mk X G a9 l9 c9 k9 (fun _ _ _ _ _ _ us hl => match us, hl with | [_], _ => rfl)
  have D__law_instruction : Dn K mg "_law_instruction" s__law_instruction p__law_instruction := dn_mk X G a10 l10 c10 k10 (fun _ _ _ _ _ _ us hl => match us, hl with | [_], _ => rfl)
  have CL_Words : Cls K C_Words := ⟨pg_Words, hd_Words, po_Words, sa_Words⟩
  have F_Words___init__ := fun_mk (st := s_Words___init__) l_Words___init__ c_Words___init__ k_Words___init__
  have b_Words___init__ := F_Words___init__.binds (ps := p_Words___init__) fun _ _ _ _ _ _ us hl => match us, hl with | [_, _], _ => rfl
  have D_Words___init__ : DnI K mg "Words" "Words.__init__" C_Words s_Words___init__ p_Words___init__ := ⟨_, _, ⟨mk_Words, a_Words___init__, i_Words___init__, kc_Words⟩, F_Words___init__, PySem.W.mg_of X G aC_Words, b_Words___init__⟩
  have F_Words_is_left := fun_mk (st := s_Words_is_left) l_Words_is_left c_Words_is_left k_Words_is_left
  have b_Words_is_left := F_Words_is_left.binds (ps := p_Words_is_left) fun _ _ _ _ _ _ us hl => match us, hl with | [_], _ => rfl
  have D_Words_is_left : DnM K C_Words "is_left" "Words.is_left" s_Words_is_left p_Words_is_left := ⟨_, _, CL_Words, ⟨a_Words_is_left, i_Words_is_left, k_Words_is_left⟩, F_Words_is_left, b_Words_is_left⟩
  have F_Words_take := fun_mk (st := s_Words_take) l_Words_take c_Words_take k_Words_take
  have b_Words_take := F_Words_take.binds (ps := p_Words_take) fun _ _ _ _ _ _ us hl => match us, hl with | [_], _ => rfl
  have D_Words_take : DnM K C_Words "take" "Words.take" s_Words_take p_Words_take := ⟨_, _, CL_Words, ⟨a_Words_take, i_Words_take, k_Words_take⟩, F_Words_take, b_Words_take⟩
  have F_Words_take_many := fun_mk (st := s_Words_take_many) l_Words_take_many c_Words_take_many k_Words_take_many
  have b_Words_take_many := F_Words_take_many.binds (ps := p_Words_take_many) fun _ _ _ _ _ _ us hl => match us, hl with | [_, _], _ => rfl
  have D_Words_take_many : DnM K C_Words "take_many" "Words.take_many" s_Words_take_many p_Words_take_many := ⟨_, _, CL_Words, ⟨a_Words_take_many, i_Words_take_many, k_Words_take_many⟩, F_Words_take_many, b_Words_take_many⟩
  have X_Words := (⟨CL_Words, na_Words_words, na_Words_at⟩ : WdK K C_Words)
  have T : Glo K w mg := ⟨PySem.W.mg_none_of X G z_n_len, PySem.W.mg_none_of X G z_n_int, PySem.W.mg_none_of X G z_n_abs, PySem.W.mg_none_of X G z_n_range, PySem.W.mg_none_of X G z_n_list, PySem.W.mg_none_of X G z_n_tuple, PySem.W.mg_none_of X G z_n_isinstance, ⟨_, PySem.W.mg_of X G z_c_NAMES, tupk_of zl_c_NAMES zv_c_NAMES (by decide)⟩, ⟨_, PySem.W.mg_of X G z_c_OPERATORS, tupk_of zl_c_OPERATORS zv_c_OPERATORS (by decide)⟩, ⟨_, PySem.W.mg_of X G z_c_NUMBERS, dct_all ⟨_, _, _, zl_c_NUMBERS, zy_c_NUMBERS, z0_c_NUMBERS, ⟨_, rfl⟩⟩ ⟨_, _, _, zl_c_NUMBERS, zy_c_NUMBERS, z1_c_NUMBERS, ⟨_, rfl⟩⟩ ⟨_, _, _, zl_c_NUMBERS, zy_c_NUMBERS, z2_c_NUMBERS, ⟨_, rfl⟩⟩ ⟨_, _, _, zl_c_NUMBERS, zy_c_NUMBERS, z3_c_NUMBERS, ⟨_, rfl⟩⟩ ⟨_, _, _, zl_c_NUMBERS, zy_c_NUMBERS, z4_c_NUMBERS, ⟨_, rfl⟩⟩ ⟨_, _, _, zl_c_NUMBERS, zy_c_NUMBERS, z5_c_NUMBERS, ⟨_, rfl⟩⟩ ⟨_, _, _, zl_c_NUMBERS, zy_c_NUMBERS, z6_c_NUMBERS, ⟨_, rfl⟩⟩ ⟨_, _, _, zl_c_NUMBERS, zy_c_NUMBERS, z7_c_NUMBERS, ⟨_, rfl⟩⟩ ⟨_, _, _, zl_c_NUMBERS, zy_c_NUMBERS, z8_c_NUMBERS, ⟨_, rfl⟩⟩ ⟨_, _, _, zl_c_NUMBERS, zy_c_NUMBERS, z9_c_NUMBERS, ⟨_, rfl⟩⟩ ⟨_, _, _, zl_c_NUMBERS, zy_c_NUMBERS, z10_c_NUMBERS, ⟨_, rfl⟩⟩ ⟨_, _, _, zl_c_NUMBERS, zy_c_NUMBERS, z11_c_NUMBERS, ⟨_, rfl⟩⟩ ⟨_, _, _, zl_c_NUMBERS, zy_c_NUMBERS, z12_c_NUMBERS, ⟨_, rfl⟩⟩ ⟨_, _, _, zl_c_NUMBERS, zy_c_NUMBERS, z13_c_NUMBERS, ⟨_, rfl⟩⟩⟩, ⟨_, PySem.W.mg_of X G z_c_ROW⟩⟩
  refine ⟨PySem.W.fnOf "law" "law" (defArgs s_law) (defBody s_law) (defScope s_law) .none kV11 dc11 pm11 an11 cd11 ct11, fun s v => .of_eq rfl, fun base _ _ => ?_⟩
  exact build_law FL T D_encode D_decode D_take_instruction D_take_row D_take_branch D__law_state D__law_draw D__law_pick D__law_names D__law_word D__law_instruction D_Words___init__ D_Words_is_left D_Words_take D_Words_take_many X_Words
theorem walk {l : PySem.W.OpenLaw} {q : Program} {loose : List Str} {XP : (Str → Option Value) → Heap → Prop} {YP : World → Heap → Prop} {d : DefRec} {K : Params → PySem.W.Frag} (hn : l.most = some 63) (hdf : d.params.defaults = [])
    (hY : ∀ (w : World) (h : Heap), YP w h → (K w.params).In h)
    (F : ∀ (w : World) (mg : Str → Option Value) (fa : Addr) (h : Heap), (K w.params).In h → h.Ns mainGlobals mg → mg d.name = some (.ref fa) →
      ∃ fd : FuncData, (∀ (s : Shared) (u : Value), BindsTo s fd ⟨[u], []⟩ [("script", u)]) ∧ ∀ base : Heap, (K w.params).In base → base.Ns mainGlobals mg → FnOk l.prog w (K w.params) mg base CX0 7 fa fd ["script"] (sp_law (K w.params))) :
    PySem.W.WalkO q loose XP YP l.row.toRowW d [] (fun f vs => PySem.call f vs) :=
  L2.walk_of (n := 63) (k := 7) (x := "script") (CX := fun _ => CX0) (sp := fun w => sp_law (K w.params)) hn (by decide) hdf ⟨rfl, by decide, by decide⟩ hY F (fun _ _ a ns hl _ hS => ⟨a, ns, rfl, hS, hl, fun _ => rfl⟩) fun _ _ _ _ _ z => z
end Y
open PySem PySem.W PyProof.Rows
set_option maxRecDepth 100000 in
set_option maxHeartbeats 0 in
theorem PySem.Challenge.cw_placedanyhow_k38_instructions_come_back_holds : PySem.Challenge.rw_placedanyhow_k38_instructions_come_back.Holds := by
  w_on; o_law; k_head; (case hw => w_witness2)
  k_fill
  refine Y.walk (l := PySem.Challenge.rw_placedanyhow_k38_instructions_come_back) rfl rfl (fun w h Y => PySem.W.kIn_of Y) ?F
  case F =>
    intro w mg fa h KX G hmg
    refine' Y.all_mk KX G hmg ?a0 ?l0 ?c0 ?k0 ?a1 ?l1 ?c1 ?k1 ?a2 ?l2 ?c2 ?k2 ?a3 ?l3 ?c3 ?k3 ?a4 ?l4 ?c4 ?k4 ?a5 ?l5 ?c5 ?k5 ?a6 ?l6 ?c6 ?k6 ?a7 ?l7 ?c7 ?k7 ?a8 ?l8 ?c8 ?k8 ?a9 ?l9 ?c9 ?k9 ?a10 ?l10 ?c10 ?k10 ?a11 ?l11 ?c11 ?k11 ?aC_Words ?pg_Words ?hd_Words ?po_Words ?sa_Words ?mk_Words ?kc_Words ?na_Words_words ?na_Words_at ?a_Words___init__ ?i_Words___init__ ?l_Words___init__ ?c_Words___init__ ?k_Words___init__ ?a_Words_is_left ?i_Words_is_left ?l_Words_is_left ?c_Words_is_left ?k_Words_is_left ?a_Words_take ?i_Words_take ?l_Words_take ?c_Words_take ?k_Words_take ?a_Words_take_many ?i_Words_take_many ?l_Words_take_many ?c_Words_take_many ?k_Words_take_many ?z_n_len ?z_n_int ?z_n_abs ?z_n_range ?z_n_list ?z_n_tuple ?z_n_isinstance ?z_c_NAMES ?zl_c_NAMES ?zv_c_NAMES ?z_c_OPERATORS ?zl_c_OPERATORS ?zv_c_OPERATORS ?z_c_NUMBERS ?zl_c_NUMBERS ?zy_c_NUMBERS ?z0_c_NUMBERS ?z1_c_NUMBERS ?z2_c_NUMBERS ?z3_c_NUMBERS ?z4_c_NUMBERS ?z5_c_NUMBERS ?z6_c_NUMBERS ?z7_c_NUMBERS ?z8_c_NUMBERS ?z9_c_NUMBERS ?z10_c_NUMBERS ?z11_c_NUMBERS ?z12_c_NUMBERS ?z13_c_NUMBERS ?z_c_ROW
    (case a0 => k_is); (case l0 => k_is); (case c0 => k_is); (case k0 => k_is)
    (case a1 => k_is); (case l1 => k_is); (case c1 => k_is); (case k1 => k_is)
    (case a2 => k_is); (case l2 => k_is); (case c2 => k_is); (case k2 => k_is)
    (case a3 => k_is); (case l3 => k_is); (case c3 => k_is); (case k3 => k_is)
    (case a4 => k_is); (case l4 => k_is); (case c4 => k_is); (case k4 => k_is)
    (case a5 => k_is); (case l5 => k_is); (case c5 => k_is); (case k5 => k_is)
    (case a6 => k_is); (case l6 => k_is); (case c6 => k_is); (case k6 => k_is)
    (case a7 => k_is); (case l7 => k_is); (case c7 => k_is); (case k7 => k_is)
    (case a8 => k_is); (case l8 => k_is); (case c8 => k_is); (case k8 => k_is)
    (case a9 => k_is); (case l9 => k_is); (case c9 => k_is); (case k9 => k_is)
    (case a10 => k_is); (case l10 => k_is); (case c10 => k_is); (case k10 => k_is)
    (case a11 => k_is); (case l11 => k_is); (case c11 => k_is); (case k11 => k_is)
    (case aC_Words => k_is)
    (case pg_Words => k_is)
    (case hd_Words => k_is)
    (case po_Words => k_is)
    (case sa_Words => k_is)
    (case mk_Words => k_is)
    (case kc_Words => k_is)
    (case na_Words_words => k_is)
    (case na_Words_at => k_is)
    (case a_Words___init__ => k_is)
    (case i_Words___init__ => k_is)
    (case l_Words___init__ => k_is)
    (case c_Words___init__ => k_is)
    (case k_Words___init__ => k_is)
    (case a_Words_is_left => k_is)
    (case i_Words_is_left => k_is)
    (case l_Words_is_left => k_is)
    (case c_Words_is_left => k_is)
    (case k_Words_is_left => k_is)
    (case a_Words_take => k_is)
    (case i_Words_take => k_is)
    (case l_Words_take => k_is)
    (case c_Words_take => k_is)
    (case k_Words_take => k_is)
    (case a_Words_take_many => k_is)
    (case i_Words_take_many => k_is)
    (case l_Words_take_many => k_is)
    (case c_Words_take_many => k_is)
    (case k_Words_take_many => k_is)
    (case z_n_len => k_is)
    (case z_n_int => k_is)
    (case z_n_abs => k_is)
    (case z_n_range => k_is)
    (case z_n_list => k_is)
    (case z_n_tuple => k_is)
    (case z_n_isinstance => k_is)
    (case z_c_NAMES => k_is)
    (case zl_c_NAMES => k_is)
    (case zv_c_NAMES => rfl)
    (case z_c_OPERATORS => k_is)
    (case zl_c_OPERATORS => k_is)
    (case zv_c_OPERATORS => rfl)
    (case z_c_NUMBERS => k_is)
    (case zl_c_NUMBERS => k_is)
    (case zy_c_NUMBERS => k_keys)
    (case z0_c_NUMBERS => k_is)
    (case z1_c_NUMBERS => k_is)
    (case z2_c_NUMBERS => k_is)
    (case z3_c_NUMBERS => k_is)
    (case z4_c_NUMBERS => k_is)
    (case z5_c_NUMBERS => k_is)
    (case z6_c_NUMBERS => k_is)
    (case z7_c_NUMBERS => k_is)
    (case z8_c_NUMBERS => k_is)
    (case z9_c_NUMBERS => k_is)
    (case z10_c_NUMBERS => k_is)
    (case z11_c_NUMBERS => k_is)
    (case z12_c_NUMBERS => k_is)
    (case z13_c_NUMBERS => k_is)
    (case z_c_ROW => k_is)
#print axioms PySem.Challenge.cw_placedanyhow_k38_instructions_come_back_holds
