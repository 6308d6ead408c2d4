import PyProof.Rows.All
import Wide.All
import OpenK.AllK
import Wide.FinOn
import HandS.ForMost
import HandS.IsInst
import HandS.Steps
import HandS.StrMore
import HandS.Codes
import HandS.More
import HandS.Strs
import HandS.Text
import HandS.TryOnly
import PyProof.AutoSeq1
import HandS.Deep
import HandS.CallLocal
import HandS.Conv
import KE.KExcIs
import PySem.Challenge.RW_placedanyhow_k46_homes_of_channels
set_option Elab.async false
set_option linter.all false
set_option maxRecDepth 100000
set_option maxHeartbeats 4000000
namespace Y
open PySem L2

/-! ### rules joined -/
section
variable {X : Cx}
def rAddA (K : PySem.W.Frag) : R2 := fun x y H Q => rI0 (fun i j => .int (i + j)) x y H Q ∨ (∃ i j, x = V.str i ∧ y = V.str j ∧ i.length + j.length ≤ sizeLine ∧ Q (.str (i ++ j)) H) ∨ rCat x y H Q ∨ rCatT K x y H Q
theorem op_addA : OpR X (binaryOp .Add) (rAddA X.K) := op_add.or (op_add_str.or (op_cat.or op_catT))
def rEqA (K : PySem.W.Frag) : R2 := fun x y H Q => rEq x y H Q ∨ rEqD K x y H Q
def rNeA (K : PySem.W.Frag) : R2 := fun x y H Q => rNe x y H Q ∨ rNeD K x y H Q
theorem op_eqA (hu : X.A.units + 64 < cLine) : OpR X (compareOp .Eq) (rEqA X.K) := op_eq.or (op_eqD hu)
theorem op_neA (hu : X.A.units + 64 < cLine) : OpR X (compareOp .NotEq) (rNeA X.K) := op_ne.or (op_neD hu)
def rLenA (K : PySem.W.Frag) : List V → Hp → VK → Prop := fun xs H Q => (∃ p ys, xs = [V.ref p] ∧ (SqL K H p ys ∨ SqT K H p ys) ∧ Q (.int ys.length) H) ∨ ∃ z, xs = [V.str z] ∧ z.length ≤ sizeLine ∧ Q (.int z.length) H
theorem call_lenA : CallR X (.builtin "len") (rLenA X.K) := call_len_seq.or call_len_str
def rSlA (K : PySem.W.Frag) : V → Option Int → Option Int → Hp → VK → Prop := fun x lo hi H Q => rSlL K x lo hi H Q ∨ rSlT K x lo hi H Q
theorem sl_any : SlR X (rSlA X.K) := sl_list.or sl_tup
theorem hu64 {A : Around} {k : Nat} (hr : Room k A) : A.units + 64 < cLine := by have := hr.un; omega
theorem pe_globC {x : Str} {n : Int} {pos : Pos} (hg : Gl X x) (hm : ∃ t, X.mg x = some (.int n t)) (hd : (x == ("__debug__" : Str)) = false := by decide) : PE X (.Name x pos) (tC (.int n)) := by
  obtain ⟨t, h⟩ := hm
  exact pe_glob hg h ⟨t, rfl⟩ hd
theorem pe_ty {x : Str} {n : String} {pos : Pos} (hg : Gl X x) (hm : X.mg x = none) (hv : bootBuiltins x = some (.type n)) (hn : x ≠ "__name__" := by decide) (hd : (x == ("__debug__" : Str)) = false := by decide) : PE X (.Name x pos) (tC (.ty n)) := pe_bltn hg hm hv rfl hn hd
end

section
variable {X : Cx} {K : PySem.W.Frag}
theorem op_eqK (hK : X.K = K) (hu : X.A.units + 64 < cLine) : OpR X (compareOp .Eq) (rEqA K) := hK ▸ op_eqA hu
theorem op_neK (hK : X.K = K) (hu : X.A.units + 64 < cLine) : OpR X (compareOp .NotEq) (rNeA K) := hK ▸ op_neA hu
theorem op_addK (hK : X.K = K) : OpR X (binaryOp .Add) (rAddA K) := hK ▸ op_addA
theorem ix_seqK (hK : X.K = K) : IxR X (rIx K) := hK ▸ ix_seq
theorem call_lenK (hK : X.K = K) : CallR X (.builtin "len") (rLenA K) := hK ▸ call_lenA
theorem op_inK (hK : X.K = K) : OpR X (compareOp .In) (rIn K false) := hK ▸ op_in_seq
theorem op_notInK (hK : X.K = K) : OpR X (compareOp .NotIn) (rIn K true) := hK ▸ op_notIn_seq
theorem sl_anyK (hK : X.K = K) : SlR X (rSlA K) := hK ▸ sl_any
theorem pi_listK {tg l : Expr} {tl : TE} (hK : X.K = K) (hl : PE X l tl) : PI X tg l (iList K tl) := hK ▸ pi_list hl
end
section
variable {X : Cx}
def rIsN : R2 := fun x y H Q => y = .non ∧ Q (.bl (decide (x = .non))) H
def rNotN : R2 := fun x y H Q => y = .non ∧ Q (.bl (!decide (x = .non))) H
theorem op_isN1 : OpR X (compareOp .Is) rIsN := op_isN
theorem op_notN1 : OpR X (compareOp .IsNot) rNotN := op_notN
end
section
variable {X : Cx}
def rInt : List V → Hp → VK → Prop := fun xs H Q => (∃ i, xs = [V.int i] ∧ Q (.int i) H) ∨ ∃ k, xs = [.bl k] ∧ Q (.int (if k then 1 else 0)) H
def rAbs : List V → Hp → VK → Prop := fun xs H Q => ∃ i, xs = [V.int i] ∧ Q (.int (if i < 0 then -i else i)) H
def rListOf (K : PySem.W.Frag) : List V → Hp → VK → Prop := fun xs H Q => ∃ p ys, xs = [V.ref p] ∧ (SqL K H p ys ∨ SqT K H p ys) ∧ ∀ l, H l = none → Q (.ref l) (upd H l (.lst ys))
theorem call_intA : CallR X (.type "int") rInt := call_int1
theorem call_absA : CallR X (.builtin "abs") rAbs := call_abs
theorem call_listA : CallR X (.type "list") (rListOf X.K) := call_list_of
end
/-! ### defs -/
section
variable (P : Program) (w : World) (K : PySem.W.Frag) (mg : Str → Option Value) (base : Heap)
/-- a def of the text as it stands behind the top -/
def Dn (x : Str) (st : Stmt) (ps : List Str) : Prop := ∃ f fd, Fun K x x st f fd ∧ mg x = some (.ref f) ∧ Binds K fd ps []
/-- a def that keeps its promise -/
def Cal (x : Str) (k : Nat) (ps : List Str) (sp : Sp) : Prop := ∃ f fd, FnOk P w K mg base CX0 k f fd ps sp ∧ mg x = some (.ref f) ∧ PySem.W.keepIn K (.ref f) = true ∧ Binds K fd ps []
end
section
variable {P : Program} {w : World} {K : PySem.W.Frag} {mg : Str → Option Value} {base : Heap}
theorem Dn.ok {x : Str} {st : Stmt} {N ps : List Str} {k : Nat} {sp : Sp} (D : Dn K mg x st ps) (S : FnScope N ps (defScope st)) (len : ∀ vs H Q E, sp vs H Q E → vs.length = ps.length)
    (hbody : ∀ (f : Addr) (cdv : Value) (A : Around) (outer : List Env) (s : Shared) (H : Hp) (vs : List V) (Q : VK) (E : XK), Room k (A.deeper (PyProof.Rows.envOfC x (defScope st) s.heap.objs.size f cdv)) → sp vs H Q E →
      ∃ t, PSs (cxOf CX0 P w K mg base N x (defScope st) f cdv A outer s H E).nox (defBody st) t ∧ t { nx := fun _ H' => Q .non H', rt := Q } (start N vs) H) : Cal P w K mg base x (k + 1) ps sp := by
  obtain ⟨f, fd, F, m, b⟩ := D
  exact ⟨f, fd, F.ok S len (hbody f), m, F.kp, b⟩
theorem pe_cal {X : Cx} {x : Str} {k : Nat} {ps : List Str} {sp : Sp} {e : Expr} {es : List Expr} {t : TA} {p pos : Pos} (G : Cal X.prog X.w X.K X.mg X.base x k ps sp) (hr : Room k X.A) (hg : Gl X x) (ha : PA X (e :: es) t)
    (hdb : (x == ("__debug__" : Str)) = false := by decide) (he : starEach (e :: es) X.env = (false, eval e X.env) :: starEach es X.env := by rfl) (hpl : (backTo pos (starEach es X.env)).any (·.1) = false := by rfl) : PE X (.Call (.Name x p) (e :: es) [] pos) (tCall sp [] E0 t) := by
  obtain ⟨f, fd, F, m, kp, b⟩ := G
  exact pe_call F hr hg m kp b .nil pass0 ha hdb he hpl
theorem pe_cal0 {X : Cx} {x : Str} {k : Nat} {ps : List Str} {sp : Sp} {p pos : Pos} (G : Cal X.prog X.w X.K X.mg X.base x k ps sp) (hr : Room k X.A) (hg : Gl X x)
    (hdb : (x == ("__debug__" : Str)) = false := by decide) : PE X (.Call (.Name x p) [] [] pos) (tCall sp [] E0 tNil) := by
  obtain ⟨f, fd, F, m, kp, b⟩ := G
  exact pe_call0 F hr hg m kp b .nil pass0 hdb
end

/-! ### heaps -/
/-- all that was tracked stays -/
def Ex (H H' : Hp) : Prop := ∀ a o, H a = some o → H' a = some o
/-- all tuples stay, and all that is not at M -/
structure Kp (M : List Addr) (H H' : Hp) : Prop where
  tup : ∀ a xs, H a = some (.tup xs) → H' a = some (.tup xs)
  out : ∀ a o, a ∉ M → H a = some o → H' a = some o
theorem Ex.refl (H : Hp) : Ex H H := fun _ _ h => h
theorem Ex.trans {H H1 H2 : Hp} (a : Ex H H1) (b : Ex H1 H2) : Ex H H2 := fun x o h => b x o (a x o h)
theorem Ex.same {H H' : Hp} (e : Ex H H') : L2.Same H H' := e
theorem Ex.kp {M : List Addr} {H H' : Hp} (e : Ex H H') : Kp M H H' := ⟨fun a xs h => e a _ h, fun a o _ h => e a o h⟩
theorem Kp.refl {M : List Addr} (H : Hp) : Kp M H H := (Ex.refl H).kp
theorem Kp.trans {M : List Addr} {H H1 H2 : Hp} (a : Kp M H H1) (b : Kp M H1 H2) : Kp M H H2 := ⟨fun x o h => b.tup x o (a.tup x o h), fun x o n h => b.out x o n (a.out x o n h)⟩
theorem Kp.sub {M N : List Addr} {H H' : Hp} (a : Kp M H H') (s : ∀ x, x ∈ M → x ∈ N) : Kp N H H' := ⟨a.tup, fun x o n h => a.out x o (fun z => n (s x z)) h⟩
theorem Ex.mk {H H2 : Hp} {p : Addr} {o : HO} (h : H p = none) (e : upd H p o = H2) : Ex H H2 := fun a u ha => by
  rw [← e, upd_ne (ne_of_none ha h)]
  exact ha
theorem at_new {H H2 : Hp} {p : Addr} {o : HO} (e : upd H p o = H2) : H2 p = some o := by rw [← e]; exact upd_same
theorem Kp.set {M : List Addr} {H H2 : Hp} {p : Addr} {o : HO} (hm : p ∈ M) (ht : ∀ xs, H p ≠ some (.tup xs)) (e : upd H p o = H2) : Kp M H H2 := ⟨fun a xs h => by
  rw [← e, upd_ne (fun z => ht xs (by rw [← z]; exact h))]
  exact h, fun a u n h => by
  rw [← e, upd_ne (fun z => n (by rw [z]; exact hm))]
  exact h⟩
theorem free_back {H H' : Hp} {p : Addr} (e : Ex H H') (h : H' p = none) : H p = none := by
  cases h1 : H p with
  | none => rfl
  | some o => rw [e p o h1] at h; cases h
theorem free_backK {M : List Addr} {H H' : Hp} {p : Addr} (e : Kp M H H') (hm : p ∉ M) (h : H' p = none) : H p = none := by
  cases h1 : H p with
  | none => rfl
  | some o => rw [e.out p o hm h1] at h; cases h
theorem at_ex {H H' : Hp} {p : Addr} {o : HO} (e : Ex H H') (h : H p = some o) : H' p = some o := e p o h
theorem at_kp {M : List Addr} {H H' : Hp} {p : Addr} {o : HO} (e : Kp M H H') (hm : p ∉ M) (h : H p = some o) : H' p = some o := e.out p o hm h
theorem tup_kp {M : List Addr} {H H' : Hp} {p : Addr} {xs : List V} (e : Kp M H H') (h : H p = some (.tup xs)) : H' p = some (.tup xs) := e.tup p xs h
theorem sqt {K : PySem.W.Frag} {H : Hp} {p : Addr} {xs : List V} (h : H p = some (.tup xs)) : SqT K H p xs := Or.inl (Or.inl h)
theorem sql {K : PySem.W.Frag} {H : Hp} {p : Addr} {xs : List V} (h : H p = some (.lst xs)) : SqL K H p xs := Or.inl (Or.inl h)
theorem sl1000 {n : Nat} (h : n ≤ 100000) : n ≤ sizeLine := Nat.le_trans h (by decide)
theorem sl1000' {n : Nat} (h : n < 100000) : n < sizeLine := Nat.lt_of_lt_of_le h (by decide)

theorem at0 {α : Type} {x : α} {xs : List α} : atI (x :: xs) 0 = some x := atI_nat (j := 0) rfl
theorem at_i {α : Type} {xs : List α} {n : Int} (h0 : 0 ≤ n) (h1 : n < xs.length) : ∃ v, xs[n.toNat]? = some v ∧ atI xs n = some v := by
  have hk : n.toNat < xs.length := by omega
  have e : n = ((n.toNat : Nat) : Int) := by omega
  refine ⟨xs[n.toNat], List.getElem?_eq_getElem hk, ?_⟩
  have q : atI xs ((n.toNat : Nat) : Int) = some xs[n.toNat] := atI_nat (List.getElem?_eq_getElem hk)
  rw [← e] at q
  exact q
/-! ### readings, step by step -/
def newT (Q : VK) (xs : List V) (H : Hp) : Prop := xs.length ≤ sizeLine ∧ ∀ p, H p = none → Q (.ref p) (upd H p (.tup xs))
def newL (Q : VK) (xs : List V) (H : Hp) : Prop := xs.length ≤ sizeLine ∧ ∀ p, H p = none → Q (.ref p) (upd H p (.lst xs))
theorem cut1 (xs : List V) : cutV xs (some 1) none = xs.drop 1 := by
  unfold cutV
  rw [show HT.sIx xs.length 0 (some 1) = min 1 xs.length from HT.sIx_nat xs.length 0 1, HT.sIx_none]
  cases xs with
  | nil => rfl
  | cons x r =>
    rw [show min 1 (x :: r).length = 1 by
      rw [List.length_cons]
      omega]
    show (List.take ((x :: r).length - 1) r) = r
    rw [List.length_cons, Nat.add_sub_cancel]
    exact List.take_length
section
variable {K : PySem.W.Frag} {σ : L2.St} {H : Hp} {Q : VK} {QT : Bool → Hp → Prop} {QA : List V → Hp → Prop} {QS : L2.St → Hp → Prop} {v x y : V} {i : Nat} {ta tb te : TE} {t u c : TT} {tr : TA} {r : R2} {ts us : TS} {nx bk ct : L2.St → Hp → Prop} {rt : VK} {g : TG} {gs : TGs}
theorem r_var (h : σ[i]? = some (some v)) (q : Q v H) : tVar i σ H Q := ⟨v, h, q⟩
theorem r_c (q : Q v H) : tC v σ H Q := q
theorem r_op (q : ta σ H fun x H1 => tb σ H1 fun y H2 => r x y H2 Q) : tOp r ta tb σ H Q := q
theorem r_un {r : V → Hp → VK → Prop} (q : ta σ H fun x H1 => r x H1 Q) : tUn r ta σ H Q := q
theorem r_tup (q : tr σ H fun xs H1 => newT Q xs H1) : tTup tr σ H Q := q
theorem r_lst (q : tr σ H fun xs H1 => newL Q xs H1) : tLst tr σ H Q := q
theorem q_newT {xs : List V} (hl : xs.length ≤ 100000) (q : ∀ p Hn, H p = none → Ex H Hn → Hn p = some (.tup xs) → Q (.ref p) Hn) : newT Q xs H := ⟨sl1000 hl, fun p hp => q p _ hp (Ex.mk hp rfl) upd_same⟩
theorem q_newL {xs : List V} (hl : xs.length ≤ 100000) (q : ∀ p Hn, H p = none → Ex H Hn → Hn p = some (.lst xs) → Q (.ref p) Hn) : newL Q xs H := ⟨sl1000 hl, fun p hp => q p _ hp (Ex.mk hp rfl) upd_same⟩
theorem r_cons (q : ta σ H fun x H1 => tr σ H1 fun xs H2 => QA (x :: xs) H2) : tCons ta tr σ H QA := q
theorem r_nil (q : QA [] H) : tNil σ H QA := q
theorem r_cb {r : List V → Hp → VK → Prop} (q : tr σ H fun vs H1 => r vs H1 Q) : tCB r tr σ H Q := q
theorem r_call {sp : Sp} {E : XK} (q : tr σ H fun vs H1 => sp vs H1 Q E) : tCall sp [] E tr σ H Q := by
  have e : (fun (vs : List V) (H1 : Hp) => sp (vs ++ []) H1 Q E) = fun vs H1 => sp vs H1 Q E := by
    funext vs H1
    rw [List.append_nil]
  show tr σ H (fun vs H1 => sp (vs ++ []) H1 Q E)
  rw [e]
  exact q
theorem r_ifE (q : t σ H fun c H1 => if c = true then ta σ H1 Q else tb σ H1 Q) : tIf t ta tb σ H Q := q
theorem r_sl {r : V → Option Int → Option Int → Hp → VK → Prop} {tl th : TO} (q : te σ H fun x H1 => tl σ H1 fun l H2 => th σ H2 fun u H3 => r x l u H3 Q) : tSl r te tl th σ H Q := q
theorem r_nopart {Q : Option Int → Hp → Prop} (q : Q none H) : tNoPart σ H Q := q
theorem r_part {Q : Option Int → Hp → Prop} (q : te σ H fun x H1 => ∃ i, x = .int i ∧ Q (some i) H1) : tPart te σ H Q := q
theorem q_part {i : Int} {B : Int → Prop} (q : B i) : ∃ j, V.int i = .int j ∧ B j := ⟨i, rfl, q⟩
theorem r_dget {td ty : TE} (q : td σ H fun x H1 => ty σ H1 fun y H2 => ∃ a v, x = .ref a ∧ DGet H2 a y (some v) ∧ Q v H2) : tDGet td ty σ H Q := q
theorem q_dget {p : Addr} {kvs : List (Key × V)} {z : Str} {B : V → Prop} (h : H p = some (.dK kvs)) (hl : valV kvs (Sum.inr z) = some v) (q : B v) : ∃ a v', V.ref p = .ref a ∧ DGet H a (.str z) (some v') ∧ B v' :=
  ⟨p, v, rfl, by rw [← hl]; exact DGet.k (k := Sum.inr z) h, q⟩
theorem r_andV (q : ta σ H fun x H1 => ∃ c, x = .bl c ∧ if c = true then tb σ H1 Q else Q (.bl false) H1) : tAndV ta tb σ H Q := q
theorem r_orV (q : ta σ H fun x H1 => ∃ c, x = .bl c ∧ if c = true then Q (.bl true) H1 else tb σ H1 Q) : tOrV ta tb σ H Q := q
theorem r_notV (q : ta σ H fun x H1 => ∃ c, x = .bl c ∧ Q (.bl (!c)) H1) : tNotV ta σ H Q := q
theorem r_test (q : te σ H fun x H' => ∃ k, x = .bl k ∧ QT k H') : tTest te σ H QT := q
theorem r_tB (q : te σ H fun x H1 => ∃ c, x = .bl c ∧ QT c H1) : tB te σ H QT := q
theorem q_exb {b : Bool} {B : Bool → Prop} (q : B b) : ∃ k, V.bl b = .bl k ∧ B k := ⟨b, rfl, q⟩
theorem r_and (q : t σ H fun c H1 => if c = true then u σ H1 QT else QT false H1) : tAnd t u σ H QT := q
theorem r_or (q : t σ H fun c H1 => if c = true then QT true H1 else u σ H1 QT) : tOr t u σ H QT := q
theorem r_not (q : t σ H fun c H1 => QT (!c) H1) : tNot t σ H QT := q
theorem r_seq (q : ts ⟨us ⟨nx, rt, bk, ct⟩, rt, bk, ct⟩ σ H) : tSeq ts us ⟨nx, rt, bk, ct⟩ σ H := q
theorem r_next (q : nx σ H) : tNext ⟨nx, rt, bk, ct⟩ σ H := q
theorem r_ifS (q : c σ H fun b H1 => if b = true then ts ⟨nx, rt, bk, ct⟩ σ H1 else us ⟨nx, rt, bk, ct⟩ σ H1) : tIfS c ts us ⟨nx, rt, bk, ct⟩ σ H := q
theorem r_asg (q : te σ H fun x H1 => g x σ H1 nx) : tAsg te g ⟨nx, rt, bk, ct⟩ σ H := q
theorem r_aug {ti : TIp} (h : σ[i]? = some (some v)) (q : te σ H fun y H1 => ti v y H1 fun z H2 => nx (σ.set i (some z)) H2) : tAug i te ti ⟨nx, rt, bk, ct⟩ σ H := ⟨v, h, q⟩
theorem q_ip {f : Int → Int → Int} {i j : Int} (q : Q (.int (f i j)) H) : ipI f (.int i) (.int j) H Q := ⟨i, j, rfl, rfl, q⟩
theorem r_drop (q : te σ H fun _ H1 => nx σ H1) : tDrop te ⟨nx, rt, bk, ct⟩ σ H := q
theorem r_ret (q : te σ H rt) : tRet te ⟨nx, rt, bk, ct⟩ σ H := q
theorem r_retN (q : rt .non H) : tRetN ⟨nx, rt, bk, ct⟩ σ H := q
theorem r_gname (q : QS (σ.set i (some v)) H) : gName i v σ H QS := q
theorem r_gnil (q : QS σ H) : gNil [] σ H QS := ⟨rfl, q⟩
theorem r_gcons {vs : List V} (q : g v σ H fun σ' H' => gs vs σ' H' QS) : gCons g gs (v :: vs) σ H QS := ⟨v, vs, rfl, q⟩
theorem r_gtup {p : Addr} {xs : List V} {n : Nat} (h : SqT K H p xs) (hl : xs.length = n) (q : gs xs σ H QS) : gTup K n gs (.ref p) σ H QS := ⟨p, xs, rfl, h, hl, q⟩
theorem r_gsub {to ti : TE} {s : TSet} (q : to σ H fun o H1 => ti σ H1 fun i H2 => s o i v H2 fun H3 => QS σ H3) : gSub to ti s v σ H QS := q
theorem r_bm {T : String} {r : V → List V → Hp → VK → Prop} (q : te σ H fun x H1 => tyV K T x H1 ∧ tr σ H1 fun xs H2 => r x xs H2 Q) : tBM K T r te tr σ H Q := q
theorem r_bm0 {T : String} {r : V → List V → Hp → VK → Prop} (q : te σ H fun x H1 => tyV K T x H1 ∧ r x [] H1 Q) : tBM0 K T r te σ H Q := q
theorem q_tyL {p : Addr} {xs : List V} {A : Prop} (h : H p = some (.lst xs)) (q : A) : tyV K "list" (.ref p) H ∧ A := ⟨Or.inl ⟨rfl, xs, sql h⟩, q⟩

theorem cast_q {x y : V} (e : x = y) (h : Q x H) : Q y H := e ▸ h
/-! ### operations on values -/
theorem q_addI {i j : Int} (q : Q (.int (i + j)) H) : rAddA K (.int i) (.int j) H Q := .inl ⟨i, j, rfl, rfl, q⟩
theorem q_I0 {f : Int → Int → V} {i j : Int} (q : Q (f i j) H) : rI0 f (.int i) (.int j) H Q := ⟨i, j, rfl, rfl, q⟩
theorem q_I {C : Int → Int → Prop} {f : Int → Int → V} {i j : Int} (h : C i j) (q : Q (f i j) H) : rI C f (.int i) (.int j) H Q := ⟨i, j, rfl, rfl, h, q⟩
theorem q_U {f : Int → V} {i : Int} (q : Q (f i) H) : rU f (.int i) H Q := ⟨i, rfl, q⟩
theorem q_ixT {p : Addr} {xs : List V} {i : Int} (h : SqT K H p xs) (ha : atI xs i = some v) (q : Q v H) : rIx K (.ref p) (.int i) H Q := .inr (.inl ⟨p, xs, i, v, rfl, rfl, h, ha, q⟩)
theorem q_ixL {p : Addr} {xs : List V} {i : Int} (h : SqL K H p xs) (ha : atI xs i = some v) (q : Q v H) : rIx K (.ref p) (.int i) H Q := .inl ⟨p, xs, i, v, rfl, rfl, h, ha, q⟩
theorem q_eqY (hs : scal x y = true) (he : x = y) (q : Q (.bl true) H) : rEqA K x y H Q := .inl ⟨hs, by rw [decide_eq_true he]; exact q⟩
theorem q_eqN (hs : scal x y = true) (he : ¬ x = y) (q : Q (.bl false) H) : rEqA K x y H Q := .inl ⟨hs, by rw [decide_eq_false he]; exact q⟩
theorem q_eqI {i j : Int} (h1 : i = j → Q (.bl true) H) (h2 : ¬ i = j → Q (.bl false) H) : rEqA K (.int i) (.int j) H Q := by
  by_cases e : i = j
  · exact q_eqY rfl (by rw [e]) (h1 e)
  · exact q_eqN rfl (fun z => e (V.int.inj z)) (h2 e)
theorem q_eqS {i j : Str} (h1 : i = j → Q (.bl true) H) (h2 : ¬ i = j → Q (.bl false) H) : rEqA K (.str i) (.str j) H Q := by
  by_cases e : i = j
  · exact q_eqY rfl (by rw [e]) (h1 e)
  · exact q_eqN rfl (fun z => e (V.str.inj z)) (h2 e)
theorem q_neY (hs : scal x y = true) (he : ¬ x = y) (q : Q (.bl true) H) : rNeA K x y H Q := .inl ⟨hs, by rw [decide_eq_false he]; exact q⟩
theorem q_neN (hs : scal x y = true) (he : x = y) (q : Q (.bl false) H) : rNeA K x y H Q := .inl ⟨hs, by rw [decide_eq_true he]; exact q⟩
theorem q_neI {i j : Int} (h1 : ¬ i = j → Q (.bl true) H) (h2 : i = j → Q (.bl false) H) : rNeA K (.int i) (.int j) H Q := by
  by_cases e : i = j
  · exact q_neN rfl (by rw [e]) (h2 e)
  · exact q_neY rfl (fun z => e (V.int.inj z)) (h1 e)
theorem q_neS {i j : Str} (h1 : ¬ i = j → Q (.bl true) H) (h2 : i = j → Q (.bl false) H) : rNeA K (.str i) (.str j) H Q := by
  by_cases e : i = j
  · exact q_neN rfl (by rw [e]) (h2 e)
  · exact q_neY rfl (fun z => e (V.str.inj z)) (h1 e)
theorem q_cmp {f : Int → Int → Prop} [∀ i j, Decidable (f i j)] {i j : Int} (h1 : f i j → Q (.bl true) H) (h2 : ¬ f i j → Q (.bl false) H) : rI0 (fun i j => .bl (decide (f i j))) (.int i) (.int j) H Q := by
  refine ⟨i, j, rfl, rfl, ?_⟩
  show Q (V.bl (decide (f i j))) H
  by_cases e : f i j
  · rw [decide_eq_true e]; exact h1 e
  · rw [decide_eq_false e]; exact h2 e
theorem cmulL {i j : Int} (h : -(2 ^ 64) < i ∧ i < 2 ^ 64) : CMul i j := .inl h
theorem cmulR {i j : Int} (h : -(2 ^ 64) < j ∧ j < 2 ^ 64) : CMul i j := .inr h
theorem cdiv {i j : Int} (h : 0 < j ∧ j < 1073741824) : CDiv i j := h
theorem q_neD (hn : ¬ x = y) (hs : scal x y = true) (q : Q (.bl true) H) : rNeA K x y H Q := q_neY hs hn q
theorem q_cmpY {f : Int → Int → Prop} [∀ i j, Decidable (f i j)] {i j : Int} (h : f i j) (q : Q (.bl true) H) : rI0 (fun i j => .bl (decide (f i j))) (.int i) (.int j) H Q :=
  ⟨i, j, rfl, rfl, by show Q (V.bl (decide (f i j))) H; rw [decide_eq_true h]; exact q⟩
theorem q_cmpN {f : Int → Int → Prop} [∀ i j, Decidable (f i j)] {i j : Int} (h : ¬ f i j) (q : Q (.bl false) H) : rI0 (fun i j => .bl (decide (f i j))) (.int i) (.int j) H Q :=
  ⟨i, j, rfl, rfl, by show Q (V.bl (decide (f i j))) H; rw [decide_eq_false h]; exact q⟩
theorem q_isNY (he : x = .non) (q : Q (.bl true) H) : rIsN x .non H Q := ⟨rfl, by rw [decide_eq_true he]; exact q⟩
theorem q_isNN (he : ¬ x = .non) (q : Q (.bl false) H) : rIsN x .non H Q := ⟨rfl, by rw [decide_eq_false he]; exact q⟩
theorem q_notNY (he : x = .non) (q : Q (.bl false) H) : rNotN x .non H Q := ⟨rfl, by rw [decide_eq_true he]; exact q⟩
theorem q_notNN (he : ¬ x = .non) (q : Q (.bl true) H) : rNotN x .non H Q := ⟨rfl, by rw [decide_eq_false he]; exact q⟩
theorem q_lenL {p : Addr} {xs : List V} (h : SqL K H p xs) (q : Q (.int xs.length) H) : rLenA K [.ref p] H Q := .inl ⟨p, xs, rfl, .inl h, q⟩
theorem q_lenT {p : Addr} {xs : List V} (h : SqT K H p xs) (q : Q (.int xs.length) H) : rLenA K [.ref p] H Q := .inl ⟨p, xs, rfl, .inr h, q⟩
theorem q_sl1T {p : Addr} {xs : List V} (h : SqT K H p (x :: xs)) (q : ∀ p Hn, H p = none → Ex H Hn → Hn p = some (.tup xs) → Q (.ref p) Hn) : rSlA K (.ref p) (some 1) none H Q :=
  .inr ⟨p, x :: xs, rfl, h, fun z => by
    have e : HT.sIx (x :: xs).length 0 (some 1) = min 1 (x :: xs).length := HT.sIx_nat _ 0 1
    have z1 := z.1
    rw [e, List.length_cons] at z1
    omega, fun p hp => q p _ hp (Ex.mk hp rfl) (by rw [upd_same, cut1]; rfl)⟩
theorem q_sl1L {p : Addr} {xs : List V} (h : SqL K H p (x :: xs)) (q : ∀ p Hn, H p = none → Ex H Hn → Hn p = some (.lst xs) → Q (.ref p) Hn) : rSlA K (.ref p) (some 1) none H Q :=
  .inl ⟨p, x :: xs, rfl, h, fun p hp => q p _ hp (Ex.mk hp rfl) (by rw [upd_same, cut1]; rfl)⟩
theorem q_inT {p : Addr} {xs : List V} (h : SqT K H p xs) (hx : flatV x = true) (ha : xs.all flatV = true) (q : Q (.bl (inV x xs)) H) : rIn K false x (.ref p) H Q := ⟨p, xs, rfl, .inr h, hx, ha, q⟩
theorem q_inTY {p : Addr} {xs : List V} (h : SqT K H p xs) (hx : (flatV x && xs.all flatV && inV x xs) = true) (q : Q (.bl true) H) : rIn K false x (.ref p) H Q := by
  simp only [Bool.and_eq_true] at hx
  exact ⟨p, xs, rfl, .inr h, hx.1.1, hx.1.2, by rw [if_neg Bool.false_ne_true, hx.2]; exact q⟩
theorem q_inTN {p : Addr} {xs : List V} (h : SqT K H p xs) (hx : (flatV x && xs.all flatV && !inV x xs) = true) (q : Q (.bl false) H) : rIn K false x (.ref p) H Q := by
  simp only [Bool.and_eq_true, Bool.not_eq_true'] at hx
  exact ⟨p, xs, rfl, .inr h, hx.1.1, hx.1.2, by rw [if_neg Bool.false_ne_true, hx.2]; exact q⟩
theorem q_inLY {p : Addr} {xs : List V} (h : SqL K H p xs) (hx : (flatV x && xs.all flatV && inV x xs) = true) (q : Q (.bl true) H) : rIn K false x (.ref p) H Q := by
  simp only [Bool.and_eq_true] at hx
  exact ⟨p, xs, rfl, .inl h, hx.1.1, hx.1.2, by rw [if_neg Bool.false_ne_true, hx.2]; exact q⟩
theorem q_inLN {p : Addr} {xs : List V} (h : SqL K H p xs) (hx : (flatV x && xs.all flatV && !inV x xs) = true) (q : Q (.bl false) H) : rIn K false x (.ref p) H Q := by
  simp only [Bool.and_eq_true, Bool.not_eq_true'] at hx
  exact ⟨p, xs, rfl, .inl h, hx.1.1, hx.1.2, by rw [if_neg Bool.false_ne_true, hx.2]; exact q⟩
theorem q_isi {t : Value} {T : String} {b : Bool} (ty : TyOf K H x t) (e : PySem.W.kitOne K t (.type T) = some b) (q : Q (.bl b) H) : rIsi K [x, .ty T] H Q := ⟨x, .ty T, t, .type T, b, rfl, .ty T, .base ty, e, q⟩
theorem q_isiBI {i : Int} (q : Q (.bl false) H) : rIsi K [.int i, .ty "bool"] H Q := q_isi (.int i) (kit_ty (by decide +kernel)) q
theorem q_isiBN (q : Q (.bl false) H) : rIsi K [.non, .ty "bool"] H Q := q_isi .non (kit_ty (by decide +kernel)) q
def dispK (Q : VK) (p : Addr) (ps : List (V × V)) (H : Hp) : Prop := H p = some (.dK []) ∧ ∃ kvs : List (Key × V), ps = kvs.map (fun kv => (kV kv.1, kv.2)) ∧ kvs.length ≤ 15 ∧ Q (.ref p) (upd H p (.dK (mergeK [] kvs)))
theorem r_disp {trs : List (TE × TE)} (q : ∀ p Hn, H p = none → Ex H Hn → Hn p = some (.dK []) → tPairs trs σ Hn fun ps H2 => dispK Q p ps H2) : tDisp trs σ H Q := fun p hp => q p _ hp (Ex.mk hp rfl) upd_same
theorem r_pnil {QP : List (V × V) → Hp → Prop} (q : QP [] H) : tPairs [] σ H QP := q
theorem r_pcons {QP : List (V × V) → Hp → Prop} {tk tv : TE} {r : List (TE × TE)} (q : tk σ H fun x H1 => tv σ H1 fun y H2 => tPairs r σ H2 fun ps H3 => QP ((x, y) :: ps) H3) : tPairs ((tk, tv) :: r) σ H QP := q
theorem merge_nd {kvs : List (Key × V)} (h : (kvs.map (·.1)).Nodup) : mergeK [] kvs = kvs := by
  have key : ∀ (more acc : List (Key × V)), ((acc ++ more).map (·.1)).Nodup → mergeK acc more = acc ++ more := by
    intro more
    induction more with
    | nil => intro acc _; rw [List.append_nil]; rfl
    | cons p r ih =>
      intro acc h
      have hp : valV acc p.1 = none := by
        cases hv : valV acc p.1 with
        | none => rfl
        | some x =>
          exfalso
          have hm := valV_in hv
          rw [List.map_append, List.nodup_append] at h
          exact h.2.2 _ hm _ (by simp) rfl
      show mergeK (putK acc p.1 p.2) r = acc ++ p :: r
      rw [putK_new _ hp, ih _ (by rw [List.append_assoc]; exact h), List.append_assoc]
      rfl
  exact key kvs [] h
theorem q_disp {p : Addr} {ps : List (V × V)} (kvs : List (Key × V)) (h : H p = some (.dK [])) (e : ps = kvs.map (fun kv => (kV kv.1, kv.2))) (nd : (kvs.map (·.1)).Nodup) (hl : kvs.length ≤ 15)
    (q : ∀ Hn, Kp [p] H Hn → Hn p = some (.dK kvs) → Q (.ref p) Hn) : dispK Q p ps H := ⟨h, kvs, e, hl, by
  rw [merge_nd nd]
  exact q _ (Kp.set (List.mem_singleton.mpr rfl) (fun xs z => by rw [h] at z; cases z) rfl) upd_same⟩
theorem q_inL {p : Addr} {xs : List V} (h : SqL K H p xs) (hx : flatV x = true) (ha : xs.all flatV = true) (q : Q (.bl (inV x xs)) H) : rIn K false x (.ref p) H Q := ⟨p, xs, rfl, .inl h, hx, ha, q⟩
theorem r_iL {tl : TE} {R : It → Hp → Prop} (q : tl σ H fun x H1 => ∃ a, x = .ref a ∧ (∃ xs, SqL K H1 a xs) ∧ R (Itl K a) H1) : iList K tl σ H R := q
theorem q_iL {a : Addr} {xs : List V} {B : Addr → Prop} (h : SqL K H a xs) (q : B a) : ∃ b, V.ref a = .ref b ∧ (∃ xs, SqL K H b xs) ∧ B b := ⟨a, rfl, ⟨xs, h⟩, q⟩
theorem r_iT {tl : TE} {R : It → Hp → Prop} (q : tl σ H fun x H1 => ∃ a, x = .ref a ∧ (∃ xs, SqT K H1 a xs) ∧ R (Itt K a) H1) : iTup K tl σ H R := q
theorem q_iT {a : Addr} {xs : List V} {B : Addr → Prop} (h : SqT K H a xs) (q : B a) : ∃ b, V.ref a = .ref b ∧ (∃ xs, SqT K H b xs) ∧ B b := ⟨a, rfl, ⟨xs, h⟩, q⟩
theorem r_rng1 {R : It → Hp → Prop} (q : tr σ H fun vs H1 => ∃ j : Int, vs = [.int j] ∧ -(2 ^ 62) ≤ j ∧ j < 2 ^ 62 ∧ R (Itr 0 j.toNat) H1) : iRng1 tr σ H R := q
theorem q_rng1 {j : Int} {B : Int → Prop} (h : 0 ≤ j ∧ j ≤ 1000000) (q : B j) : ∃ i : Int, [V.int j] = [.int i] ∧ -(2 ^ 62) ≤ i ∧ i < 2 ^ 62 ∧ B i := ⟨j, rfl, by omega, by omega, q⟩
theorem r_rng2 {R : It → Hp → Prop} (q : tr σ H fun vs H1 => ∃ i j : Int, vs = [.int i, .int j] ∧ (-(2 ^ 62) ≤ i ∧ i < 2 ^ 62 ∧ -(2 ^ 62) ≤ j ∧ j < 2 ^ 62) ∧ R (Itr i (j - i).toNat) H1) : iRng2 tr σ H R := q
theorem q_rng2 {i j : Int} {B : Int → Int → Prop} (h : 0 ≤ i ∧ i ≤ 1000000 ∧ 0 ≤ j ∧ j ≤ 1000000) (q : B i j) : ∃ a b : Int, [V.int i, V.int j] = [.int a, .int b] ∧ (-(2 ^ 62) ≤ a ∧ a < 2 ^ 62 ∧ -(2 ^ 62) ≤ b ∧ b < 2 ^ 62) ∧ B a b :=
  ⟨i, j, rfl, ⟨by omega, by omega, by omega, by omega⟩, q⟩
theorem r_lc {wi : TI} {vs : List Nat} (q : wi σ H fun J H1 => ∀ D, H1 D = none → ∃ W : Nat → Nat → Hp → Prop, (∃ m, W 0 m (upd H1 D (.lst []))) ∧ ∀ i m H, W i m H →
  (J.stop i H ∧ Q (.ref D) H) ∨ (J.go i H ∧ ∃ Nx : Hp → Prop, (∀ H', Nx H' → ∃ m', m' < m ∧ W (i + 1) m' H') ∧ ∀ x H', J.yld i H x H' → g x (wipe σ vs) H' fun σ2 H2 => wipe σ2 vs = wipe σ vs ∧ t σ2 H2 fun b H3 =>
    if b = true then te σ2 H3 fun y H4 => ∃ acc, H4 D = some (.lst acc) ∧ acc.length < sizeLine ∧ Nx (upd H4 D (.lst (acc ++ [y]))) else Nx H3)) : tLc wi g t te vs σ H Q := q
theorem r_yes (q : QT true H) : tYes σ H QT := q
theorem r_for {wi : TI} (q : wi σ H fun J H1 => ∃ W : Nat → Nat → L2.St → Hp → Prop, (∃ m, W 0 m σ H1) ∧ ∀ i m σ H, W i m σ H →
  (J.stop i H ∧ nx σ H) ∨ (J.go i H ∧ ∃ N : L2.St → Hp → Prop, (∀ σ' H', N σ' H' → ∃ m', m' < m ∧ W (i + 1) m' σ' H') ∧ ∀ x H', J.yld i H x H' → g x σ H' fun σ2 H2 => ts ⟨N, rt, nx, N⟩ σ2 H2)) : tFor wi g ts ⟨nx, rt, bk, ct⟩ σ H := q
/-- the loops' words -/
theorem w_list {a : Addr} {xs : List V} (Pv : Nat → L2.St → Hp → Prop) (h0 : Pv 0 σ H) (hl : ∀ i σ H, i ≤ xs.length → Pv i σ H → SqL K H a xs)
    (hs : ∀ i x σ H, xs[i]? = some x → Pv i σ H → g x σ H fun σ2 H2 => ts ⟨Pv (i + 1), rt, nx, Pv (i + 1)⟩ σ2 H2) (hd : ∀ σ H, Pv xs.length σ H → nx σ H) :
    ∃ W : Nat → Nat → L2.St → Hp → Prop, (∃ m, W 0 m σ H) ∧ ∀ i m σ H, W i m σ H →
      ((Itl K a).stop i H ∧ nx σ H) ∨ ((Itl K a).go i H ∧ ∃ N : L2.St → Hp → Prop, (∀ σ' H', N σ' H' → ∃ m', m' < m ∧ W (i + 1) m' σ' H') ∧ ∀ x H', (Itl K a).yld i H x H' → g x σ H' fun σ2 H2 => ts ⟨N, rt, nx, N⟩ σ2 H2) :=
  for_list (D := ⟨nx, rt, nx, nx⟩) Pv h0 hl hs hd
theorem w_tup {a : Addr} {xs : List V} (Pv : Nat → L2.St → Hp → Prop) (h0 : Pv 0 σ H) (hl : ∀ i σ H, i ≤ xs.length → Pv i σ H → SqT K H a xs)
    (hs : ∀ i x σ H, xs[i]? = some x → Pv i σ H → g x σ H fun σ2 H2 => ts ⟨Pv (i + 1), rt, nx, Pv (i + 1)⟩ σ2 H2) (hd : ∀ σ H, Pv xs.length σ H → nx σ H) :
    ∃ W : Nat → Nat → L2.St → Hp → Prop, (∃ m, W 0 m σ H) ∧ ∀ i m σ H, W i m σ H →
      ((Itt K a).stop i H ∧ nx σ H) ∨ ((Itt K a).go i H ∧ ∃ N : L2.St → Hp → Prop, (∀ σ' H', N σ' H' → ∃ m', m' < m ∧ W (i + 1) m' σ' H') ∧ ∀ x H', (Itt K a).yld i H x H' → g x σ H' fun σ2 H2 => ts ⟨N, rt, nx, N⟩ σ2 H2) :=
  for_tup (D := ⟨nx, rt, nx, nx⟩) Pv h0 hl hs hd
theorem w_rng {lo : Int} {n : Nat} (Pv : Nat → L2.St → Hp → Prop) (h0 : Pv 0 σ H)
    (hs : ∀ i σ H, i < n → Pv i σ H → g (.int (lo + i)) σ H fun σ2 H2 => ts ⟨Pv (i + 1), rt, nx, Pv (i + 1)⟩ σ2 H2) (hd : ∀ σ H, Pv n σ H → nx σ H) :
    ∃ W : Nat → Nat → L2.St → Hp → Prop, (∃ m, W 0 m σ H) ∧ ∀ i m σ H, W i m σ H →
      ((Itr lo n).stop i H ∧ nx σ H) ∨ ((Itr lo n).go i H ∧ ∃ N : L2.St → Hp → Prop, (∀ σ' H', N σ' H' → ∃ m', m' < m ∧ W (i + 1) m' σ' H') ∧ ∀ x H', (Itr lo n).yld i H x H' → g x σ H' fun σ2 H2 => ts ⟨N, rt, nx, N⟩ σ2 H2) :=
  for_range (D := ⟨nx, rt, nx, nx⟩) Pv h0 hs hd
theorem r_iS {tl : TE} {R : It → Hp → Prop} (q : tl σ H fun v H1 => ∃ x, v = .str x ∧ R (Its x) H1) : iStr tl σ H R := q
theorem q_iS {z : Str} {B : Str → Prop} (q : B z) : ∃ x, V.str z = .str x ∧ B x := ⟨z, rfl, q⟩
theorem w_str {x : Str} (Pv : Nat → L2.St → Hp → Prop) (h0 : Pv 0 σ H)
    (hs : ∀ i c σ H, x.cps.toList[i]? = some c → Pv i σ H → g (.str ⟨#[c]⟩) σ H fun σ2 H2 => ts ⟨Pv (i + 1), rt, nx, Pv (i + 1)⟩ σ2 H2) (hd : ∀ σ H, Pv x.cps.toList.length σ H → nx σ H) :
    ∃ W : Nat → Nat → L2.St → Hp → Prop, (∃ m, W 0 m σ H) ∧ ∀ i m σ H, W i m σ H →
      ((Its x).stop i H ∧ nx σ H) ∨ ((Its x).go i H ∧ ∃ N : L2.St → Hp → Prop, (∀ σ' H', N σ' H' → ∃ m', m' < m ∧ W (i + 1) m' σ' H') ∧ ∀ v H', (Its x).yld i H v H' → g v σ H' fun σ2 H2 => ts ⟨N, rt, nx, N⟩ σ2 H2) := by
  have hz : x.cps.toList.length = x.cps.size := Array.length_toList
  refine ⟨fun i m σ H => m = x.cps.size - i ∧ i ≤ x.cps.size ∧ Pv i σ H, ⟨x.cps.size, by simp, Nat.zero_le _, h0⟩, ?_⟩
  rintro i m σ H ⟨rfl, hi, p⟩
  by_cases hlt : i < x.cps.size
  · refine .inr ⟨hlt, Pv (i + 1), fun σ' H' p' => ⟨x.cps.size - (i + 1), by omega, rfl, hlt, p'⟩, fun v H' y => ?_⟩
    obtain ⟨e, c, hc, ev⟩ := y
    subst e
    subst ev
    exact hs i c _ _ (by rw [Array.getElem?_toList]; exact hc) p
  · have e : i = x.cps.toList.length := by omega
    subst e
    exact .inl ⟨by show x.cps.size ≤ _; omega, hd _ _ p⟩
theorem w_while (W : Nat → L2.St → Hp → Prop) (m0 : Nat) (h0 : W m0 σ H)
    (hs : ∀ m σ' H', W m σ' H' → c σ' H' fun b H1 => if b = true then ts ⟨fun σ2 H2 => ∃ m', m' < m ∧ W m' σ2 H2, rt, nx, fun σ2 H2 => ∃ m', m' < m ∧ W m' σ2 H2⟩ σ' H1 else nx σ' H1)
    (mono : ∀ σ H Q Q', (∀ b H1, Q b H1 → Q' b H1) → c σ H Q → c σ H Q') : tWhile c ts ⟨nx, rt, bk, ct⟩ σ H := by
  refine ⟨W, ⟨m0, h0⟩, fun m σ' H' hw => mono σ' H' _ _ (fun b H1 q => ?_) (hs m σ' H' hw)⟩
  cases b with
  | true => exact ⟨_, fun _ _ n => n, q⟩
  | false => exact q
theorem q_setL {p : Addr} {xs : List V} {k : Int} {j : Nat} {QH : Hp → Prop} (h : H p = some (.lst xs)) (hj : ixN xs.length k = some j) (q : QH (upd H p (.lst (xs.set j v)))) : rSetL (.ref p) (.int k) v H QH := ⟨p, xs, k, j, rfl, rfl, h, hj, q⟩
theorem q_append {l : Addr} {xs : List V} (h : H l = some (.lst xs)) (hz : xs.length < 100000) (q : Q .non (upd H l (.lst (xs ++ [y])))) : rAppend (.ref l) [y] H Q := ⟨l, xs, y, rfl, rfl, h, sl1000' hz, q⟩
theorem q_pop0 {l : Addr} {xs : List V} (h : H l = some (.lst (x :: xs))) (q : Q x (upd H l (.lst xs))) : rPopAt (.ref l) [.int 0] H Q := ⟨l, x :: xs, 0, 0, x, rfl, rfl, h, by decide, by decide, by simp [seqIndex?], rfl, q⟩
theorem q_abs {i : Int} (q : Q (.int (if i < 0 then -i else i)) H) : rAbs [.int i] H Q := ⟨i, rfl, q⟩
theorem q_int {i : Int} (q : Q (.int i) H) : rInt [.int i] H Q := .inl ⟨i, rfl, q⟩
theorem q_intT (q : Q (.int 1) H) : rInt [.bl true] H Q := .inr ⟨true, rfl, q⟩
theorem q_intF (q : Q (.int 0) H) : rInt [.bl false] H Q := .inr ⟨false, rfl, q⟩
theorem q_intNT (q : Q (.int 1) H) : rInt [.bl (!false)] H Q := .inr ⟨true, rfl, q⟩
theorem q_intNF (q : Q (.int 0) H) : rInt [.bl (!true)] H Q := .inr ⟨false, rfl, q⟩
theorem iteNT {A B : Prop} (h : A) : if (!false) = true then A else B := by simpa using h
theorem iteNF {A B : Prop} (h : B) : if (!true) = true then A else B := by simpa using h
theorem q_listL {p : Addr} {ys : List V} (h : SqL K H p ys) (q : ∀ p Hn, H p = none → Ex H Hn → Hn p = some (.lst ys) → Q (.ref p) Hn) : rListOf K [.ref p] H Q := ⟨p, ys, rfl, .inl h, fun p hp => q p _ hp (Ex.mk hp rfl) upd_same⟩
theorem q_listT {p : Addr} {ys : List V} (h : SqT K H p ys) (q : ∀ p Hn, H p = none → Ex H Hn → Hn p = some (.lst ys) → Q (.ref p) Hn) : rListOf K [.ref p] H Q := ⟨p, ys, rfl, .inr h, fun p hp => q p _ hp (Ex.mk hp rfl) upd_same⟩
end

/-! ### tests that hand on more where more is wished (for while) -/
section
variable {K : PySem.W.Frag}
def MoE (t : TE) : Prop := ∀ σ H (Q Q' : VK), (∀ v H1, Q v H1 → Q' v H1) → t σ H Q → t σ H Q'
def MoT (t : TT) : Prop := ∀ σ H (Q Q' : Bool → Hp → Prop), (∀ v H1, Q v H1 → Q' v H1) → t σ H Q → t σ H Q'
def MoA (t : TA) : Prop := ∀ σ H (Q Q' : List V → Hp → Prop), (∀ v H1, Q v H1 → Q' v H1) → t σ H Q → t σ H Q'
def MoR (r : R2) : Prop := ∀ x y H (Q Q' : VK), (∀ v H1, Q v H1 → Q' v H1) → r x y H Q → r x y H Q'
def MoC (r : List V → Hp → VK → Prop) : Prop := ∀ x H (Q Q' : VK), (∀ v H1, Q v H1 → Q' v H1) → r x H Q → r x H Q'
theorem mo_var {i : Nat} : MoE (tVar i) := fun _ _ _ _ k ⟨v, h, q⟩ => ⟨v, h, k _ _ q⟩
theorem mo_c {v : V} : MoE (tC v) := fun _ _ _ _ k q => k _ _ q
theorem mo_op {r : R2} {a b : TE} (hr : MoR r) (ha : MoE a) (hb : MoE b) : MoE (tOp r a b) := fun σ H Q Q' k h => ha _ _ _ _ (fun x H1 q => hb _ _ _ _ (fun y H2 q => hr _ _ _ _ _ k q) q) h
theorem mo_test {a : TE} (ha : MoE a) : MoT (tTest a) := fun σ H Q Q' k h => ha _ _ _ _ (fun x H1 ⟨c, e, q⟩ => ⟨c, e, k _ _ q⟩) h
theorem mo_and {a b : TT} (ha : MoT a) (hb : MoT b) : MoT (tAnd a b) := fun σ H Q Q' k h => ha _ _ _ _ (fun c H1 q => by
  cases c
  · exact k _ _ q
  · exact hb _ _ _ _ k q) h
theorem mo_or {a b : TT} (ha : MoT a) (hb : MoT b) : MoT (tOr a b) := fun σ H Q Q' k h => ha _ _ _ _ (fun c H1 q => by
  cases c
  · exact hb _ _ _ _ k q
  · exact k _ _ q) h
theorem mo_not {a : TT} (ha : MoT a) : MoT (tNot a) := fun σ H Q Q' k h => ha _ _ _ _ (fun c H1 q => k _ _ q) h
theorem mo_nil : MoA tNil := fun _ _ _ _ k q => k _ _ q
theorem mo_cons {a : TE} {r : TA} (ha : MoE a) (hr : MoA r) : MoA (tCons a r) := fun σ H Q Q' k h => ha _ _ _ _ (fun x H1 q => hr _ _ _ _ (fun xs H2 q => k _ _ q) q) h
theorem mo_cb {r : List V → Hp → VK → Prop} {a : TA} (hr : MoC r) (ha : MoA a) : MoE (tCB r a) := fun σ H Q Q' k h => ha _ _ _ _ (fun x H1 q => hr _ _ _ _ k q) h
theorem mo_I0 {f : Int → Int → V} : MoR (rI0 f) := fun _ _ _ _ _ k ⟨i, j, a, b, q⟩ => ⟨i, j, a, b, k _ _ q⟩
theorem mo_I {C : Int → Int → Prop} {f : Int → Int → V} : MoR (rI C f) := fun _ _ _ _ _ k ⟨i, j, a, b, c, q⟩ => ⟨i, j, a, b, c, k _ _ q⟩
theorem mo_eqA : MoR (rEqA K) := fun _ _ _ _ _ k h => h.elim (fun ⟨a, q⟩ => .inl ⟨a, k _ _ q⟩) fun ⟨d, e, a, b, c, f, q⟩ => .inr ⟨d, e, a, b, c, f, k _ _ q⟩
theorem mo_neA : MoR (rNeA K) := fun _ _ _ _ _ k h => h.elim (fun ⟨a, q⟩ => .inl ⟨a, k _ _ q⟩) fun ⟨d, e, a, b, c, f, q⟩ => .inr ⟨d, e, a, b, c, f, k _ _ q⟩
theorem mo_ix : MoR (rIx K) := fun _ _ _ _ _ k h => by
  rcases h with ⟨p, xs, i, v, a, b, c, d, q⟩ | ⟨p, xs, i, v, a, b, c, d, q⟩ | ⟨z, i, c, a, b, d, e, q⟩
  · exact .inl ⟨p, xs, i, v, a, b, c, d, k _ _ q⟩
  · exact .inr (.inl ⟨p, xs, i, v, a, b, c, d, k _ _ q⟩)
  · exact .inr (.inr ⟨z, i, c, a, b, d, e, k _ _ q⟩)
theorem mo_lenA : MoC (rLenA K) := fun _ _ _ _ k h => by
  rcases h with ⟨p, ys, a, b, q⟩ | ⟨z, a, b, q⟩
  · exact .inl ⟨p, ys, a, b, k _ _ q⟩
  · exact .inr ⟨z, a, b, k _ _ q⟩
theorem ix0 {n : Nat} : ixN (n + 1) 0 = some 0 := by
  unfold ixN
  rw [if_pos (by decide), if_pos (by omega)]
  rfl
end
end Y
namespace Y
open PySem L2
def topS (i : Nat) : Stmt := PySem.Challenge.pw_placedanyhow_k46_homes_of_channels.main.body.getD i (.Pass ⟨0, 0, 0, 0⟩)
local macro_rules | `(tactic| walk_at "lift") => `(tactic| first
  | assumption
  | (refine at_ex (by assumption) ?_; walk_at "lift")
  | (refine tup_kp (by assumption) ?_; walk_at "lift")
  | (refine at_kp (by assumption) (by walk_at "nin") ?_; walk_at "lift"))
local macro_rules | `(tactic| walk_at "sq") => `(tactic| first
  | assumption
  | (refine sqt ?_; walk_at "lift")
  | (refine sql ?_; walk_at "lift"))
local macro_rules | `(tactic| walk_at "ar") => `(tactic| first
  | assumption
  | omega
  | (refine And.intro ?_ ?_ <;> omega)
  | (refine cdiv ⟨?_, ?_⟩ <;> omega)
  | (refine cmulL ⟨?_, ?_⟩ <;> omega)
  | (refine cmulR ⟨?_, ?_⟩ <;> omega)
  | decide)
set_option hygiene false in
local macro_rules | `(tactic| walk_at "i_disp") => `(tactic| intro dp Hn hdp ke hdn)
set_option hygiene false in
local macro_rules | `(tactic| walk_at "i_new") => `(tactic| intro p Hn hp ke hn)
local macro_rules | `(tactic| walk_at "len") => `(tactic| first | decide | (simp only [List.length_cons, List.length_nil, List.length_append, List.length_map]; omega))
local macro_rules | `(tactic| walk_at "new") => `(tactic| first
  | ((with_reducible refine q_newT ?h ?_); (case h => walk_at "len"); walk_at "i_new")
  | ((with_reducible refine q_newL ?h ?_); (case h => walk_at "len"); walk_at "i_new")
  | ((with_reducible refine q_sl1T (x := ?x) (xs := ?xs) ?h ?_); (case h => walk_at "sq"); walk_at "i_new")
  | ((with_reducible refine q_sl1L (x := ?x) (xs := ?xs) ?h ?_); (case h => walk_at "sq"); walk_at "i_new")
  | ((with_reducible refine q_listL (ys := ?ys) ?h ?_); (case h => walk_at "sq"); walk_at "i_new")
  | ((with_reducible refine q_listT (ys := ?ys) ?h ?_); (case h => walk_at "sq"); walk_at "i_new"))
local macro_rules | `(tactic| walk_at "arx") => `(tactic| first
  | omega
  | decide
  | (simp only [List.length_cons, List.length_nil, List.length_map]; omega))
set_option hygiene false in
local macro_rules | `(tactic| walk_at "q") => `(tactic| exact q)
local macro_rules | `(tactic| walk_at "st") => `(tactic| first
  | with_reducible refine r_seq ?_
  | with_reducible refine r_ifS ?_
  | with_reducible refine r_asg ?_
  | with_reducible refine r_ret ?_
  | with_reducible refine r_retN ?_
  | with_reducible refine r_next ?_
  | with_reducible refine r_drop ?_
  | ((with_reducible refine r_aug (v := ?v) ?h ?_); (case h => exact rfl))
  | with_reducible refine q_ip ?_
  | ((with_reducible refine r_var (v := ?v) ?h ?_); (case h => exact rfl))
  | with_reducible refine r_c ?_
  | with_reducible refine r_op ?_
  | with_reducible refine r_un ?_
  | with_reducible refine r_test ?_
  | with_reducible refine r_tB ?_
  | with_reducible refine q_exb ?_
  | with_reducible refine r_and ?_
  | with_reducible refine r_or ?_
  | with_reducible refine r_not ?_
  | with_reducible refine r_andV ?_
  | with_reducible refine r_orV ?_
  | with_reducible refine r_notV ?_
  | with_reducible refine r_ifE ?_
  | with_reducible refine iteT ?_
  | with_reducible refine iteF ?_
  | with_reducible refine iteNT ?_
  | with_reducible refine iteNF ?_
  | with_reducible refine q_intNT ?_
  | with_reducible refine q_intNF ?_
  | with_reducible refine r_cons ?_
  | with_reducible refine r_nil ?_
  | with_reducible refine r_cb ?_
  | with_reducible refine r_call ?_
  | with_reducible refine r_tup ?_
  | with_reducible refine r_lst ?_
  | with_reducible refine r_gname ?_
  | with_reducible refine r_gnil ?_
  | with_reducible refine r_gcons ?_
  | with_reducible refine r_gsub ?_
  | ((with_reducible refine r_gtup (xs := ?xs) ?h ?l ?_); (case h => walk_at "sq"); (case l => rfl))
  | with_reducible refine r_sl ?_
  | with_reducible refine r_part ?_
  | with_reducible refine r_nopart ?_
  | with_reducible refine q_part ?_
  | with_reducible refine r_dget ?_
  | ((with_reducible refine q_dget (kvs := ?kvs) (v := ?v) ?h ?l ?_); (case h => walk_at "lift"); (case l => first | assumption | rfl))
  | with_reducible refine r_bm ?_
  | with_reducible refine r_bm0 ?_
  | with_reducible refine q_addI ?_
  | ((with_reducible refine q_eqY ?s ?e ?_); (case e => first | exact rfl | decide +kernel); (case s => rfl))
  | ((with_reducible refine q_eqN ?s ?e ?_); (case e => decide +kernel); (case s => rfl))
  | ((with_reducible refine q_eqN ?s ?e ?_); (case e => walk_at "ne"); (case s => rfl))
  | (with_reducible refine q_eqI (fun c => ?_) (fun c => ?_))
  | (with_reducible refine q_eqS (fun c => ?_) (fun c => ?_))
  | ((with_reducible refine q_neY ?s ?e ?_); (case e => decide +kernel); (case s => rfl))
  | ((with_reducible refine q_neN ?s ?e ?_); (case e => first | exact rfl | decide +kernel); (case s => rfl))
  | (with_reducible refine q_neI (fun c => ?_) (fun c => ?_))
  | (with_reducible refine q_neS (fun c => ?_) (fun c => ?_))
  | ((with_reducible refine q_cmpY ?h ?_); (case h => walk_at "arx"))
  | ((with_reducible refine q_cmpN ?h ?_); (case h => walk_at "arx"))
  | (with_reducible refine q_cmp (fun c => ?_) (fun c => ?_))
  | ((with_reducible refine q_I ?c ?_); (case c => walk_at "ar"))
  | with_reducible refine q_I0 ?_
  | with_reducible refine q_U ?_
  | ((with_reducible refine q_ixT (xs := ?xs) (v := ?v) ?h ?a ?_); (case h => walk_at "sq"); (case a => exact rfl))
  | ((with_reducible refine q_lenL (xs := ?xs) ?h ?_); (case h => walk_at "sq"))
  | ((with_reducible refine q_lenT (xs := ?xs) ?h ?_); (case h => walk_at "sq"))
  | with_reducible refine q_isiBI ?_
  | with_reducible refine q_isiBN ?_
  | ((with_reducible refine q_inTY (xs := ?xs) ?h ?e ?_); (case h => walk_at "sq"); (case e => first | decide +kernel | rfl))
  | ((with_reducible refine q_inTN (xs := ?xs) ?h ?e ?_); (case h => walk_at "sq"); (case e => first | decide +kernel | rfl))
  | ((with_reducible refine q_inLY (xs := ?xs) ?h ?e ?_); (case h => walk_at "sq"); (case e => first | decide +kernel | rfl))
  | ((with_reducible refine q_inLN (xs := ?xs) ?h ?e ?_); (case h => walk_at "sq"); (case e => first | decide +kernel | rfl))
  | with_reducible refine q_int ?_
  | with_reducible refine q_intT ?_
  | with_reducible refine q_intF ?_
  | with_reducible refine q_abs ?_
  | with_reducible refine r_yes ?_
  | with_reducible refine r_lc ?_
  | (with_reducible refine r_disp ?_; walk_at "i_disp")
  | with_reducible refine r_pcons ?_
  | with_reducible refine r_pnil ?_
  | with_reducible refine r_for ?_
  | with_reducible refine r_iL ?_
  | with_reducible refine r_iT ?_
  | with_reducible refine r_iS ?_
  | with_reducible refine q_iS ?_
  | with_reducible refine r_rng1 ?_
  | with_reducible refine r_rng2 ?_
  | ((with_reducible refine q_iL (xs := ?xs) ?h ?_); (case h => walk_at "sq"))
  | ((with_reducible refine q_iT (xs := ?xs) ?h ?_); (case h => walk_at "sq"))
  | ((with_reducible refine q_rng1 ?h ?_); (case h => walk_at "ar"))
  | ((with_reducible refine q_rng2 ?h ?_); (case h => refine And.intro ?_ (And.intro ?_ (And.intro ?_ ?_)) <;> omega))
  | walk_at "q"
  | with_reducible refine q_isNY rfl ?_
  | ((with_reducible refine q_isNN ?h ?_); (case h => intro z; cases z))
  | with_reducible refine q_notNY rfl ?_
  | ((with_reducible refine q_notNN ?h ?_); (case h => intro z; cases z))
  | ((with_reducible refine q_ixL (xs := ?xs) (v := ?v) ?h ?a ?_); (case h => walk_at "sq"); (case a => first | exact rfl | exact at0 | assumption | walk_at "ax"))
  | walk_at "new"
  | walk_at "own"
  | fail)
local macro_rules | `(tactic| walk_at "own") => `(tactic| fail)
local macro_rules | `(tactic| walk_at "ne") => `(tactic| fail)
local macro_rules | `(tactic| walk_at "ax") => `(tactic| fail)
local macro_rules | `(tactic| walk_at "ex") => `(tactic| first
  | assumption
  | exact Ex.refl _
  | (refine Ex.trans ?_ (by assumption); walk_at "ex"))
structure Glo (K : PySem.W.Frag) (w : World) (mg : Str → Option Value) : Prop where
  n_len : mg "len" = none
  n_int : mg "int" = none
  n_abs : mg "abs" = none
  n_range : mg "range" = none
  n_list : mg "list" = none
  n_isinstance : mg "isinstance" = none
local macro_rules | `(tactic| walk_at "lev") => `(tactic| first | decide | omega)
variable {P : Program} {w : World} {K : PySem.W.Frag} {mg : Str → Option Value} {base : Heap}
/-! ### own classes -/
section
variable (P : Program) (w : World) (K : PySem.W.Frag) (mg : Str → Option Value) (base : Heap)
/-- a method as it stands behind the top -/
def DnM (C : Addr) (m q : Str) (st : Stmt) (ps : List Str) : Prop := ∃ f fd, Cls K C ∧ Meth K C m f ∧ Fun K m q st f fd ∧ Binds K fd ps []
/-- a class with its __init__ -/
def DnI (x q : Str) (C : Addr) (st : Stmt) (ps : List Str) : Prop := ∃ f fd, Mk K C f ∧ Fun K "__init__" q st f fd ∧ mg x = some (.ref C) ∧ Binds K fd ps []
def MetC (C : Addr) (m : Str) (k : Nat) (ps : List Str) (sp : Sp) : Prop := ∃ f fd, Cls K C ∧ Meth K C m f ∧ FnOk P w K mg base CX0 k f fd ps sp ∧ Binds K fd ps []
def MakC (x : Str) (C : Addr) (k : Nat) (ps : List Str) (sp : Sp) : Prop := ∃ f fd, Mk K C f ∧ FnOk P w K mg base CX0 k f fd ps sp ∧ mg x = some (.ref C) ∧ Binds K fd ps []
end
section
variable {P : Program} {w : World} {K : PySem.W.Frag} {mg : Str → Option Value} {base : Heap}
theorem DnM.ok {C : Addr} {m q : Str} {st : Stmt} {N ps : List Str} {k : Nat} {sp : Sp} (D : DnM K C m q st ps) (S : FnScope N ps (defScope st)) (len : ∀ vs H Q E, sp vs H Q E → vs.length = ps.length)
    (hbody : ∀ (f : Addr) (cdv : Value) (A : Around) (outer : List Env) (s : Shared) (H : Hp) (vs : List V) (Q : VK) (E : XK), Room k (A.deeper (PyProof.Rows.envOfC q (defScope st) s.heap.objs.size f cdv)) → sp vs H Q E →
      ∃ t, PSs (cxOf CX0 P w K mg base N q (defScope st) f cdv A outer s H E).nox (defBody st) t ∧ t { nx := fun _ H' => Q .non H', rt := Q } (start N vs) H) : MetC P w K mg base C m (k + 1) ps sp := by
  obtain ⟨f, fd, c, me, F, b⟩ := D
  exact ⟨f, fd, c, me, F.ok S len (hbody f), b⟩
theorem DnI.ok {x q : Str} {C : Addr} {st : Stmt} {N ps : List Str} {k : Nat} {sp : Sp} (D : DnI K mg x q C st ps) (S : FnScope N ps (defScope st)) (len : ∀ vs H Q E, sp vs H Q E → vs.length = ps.length)
    (hbody : ∀ (f : Addr) (cdv : Value) (A : Around) (outer : List Env) (s : Shared) (H : Hp) (vs : List V) (Q : VK) (E : XK), Room k (A.deeper (PyProof.Rows.envOfC q (defScope st) s.heap.objs.size f cdv)) → sp vs H Q E →
      ∃ t, PSs (cxOf CX0 P w K mg base N q (defScope st) f cdv A outer s H E).nox (defBody st) t ∧ t { nx := fun _ H' => Q .non H', rt := Q } (start N vs) H) : MakC P w K mg base x C (k + 1) ps sp := by
  obtain ⟨f, fd, mk, F, m, b⟩ := D
  exact ⟨f, fd, mk, F.ok S len (hbody f), m, b⟩
theorem pe_mtC {X : Cx} {C : Addr} {m : Str} {k : Nat} {ps : List Str} {sp : Sp} {o e : Expr} {es : List Expr} {ta : TE} {t : TA} {pos apos : Pos} {pl : Sem Bool} (G : MetC X.prog X.w X.K X.mg X.base C m k ps sp) (hr : Room k X.A) (he : PE X o ta) (ha : PA X (e :: es) t)
    (hst : starEach (e :: es) X.env = (false, eval e X.env) :: starEach es X.env := by rfl) (hpl : (backTo pos (starEach es X.env)).any (·.1) = false := by rfl)
    (ht : eval (.Call (.Attribute o m apos) (e :: es) [] pos) X.env = (do
      let ov ← eval o X.env
      standAt apos.atName
      let (f, first) ← holding [ov] (getMethod ov m pl)
      callWith pos f first (backTo pos (starEach (e :: es) X.env)) (backToKw pos (keywordEach [] X.env))) := by rfl) :
    PE X (.Call (.Attribute o m apos) (e :: es) [] pos) (tMeth C m sp [] E0 ta t) := by
  obtain ⟨f, fd, c, me, F, b⟩ := G
  exact pe_meth (pl := pl) he c me F hr b .nil pass0 ha hst hpl ht
theorem pe_mtC0 {X : Cx} {C : Addr} {m : Str} {k : Nat} {ps : List Str} {sp : Sp} {o : Expr} {ta : TE} {pos apos : Pos} {pl : Sem Bool} (G : MetC X.prog X.w X.K X.mg X.base C m k ps sp) (hr : Room k X.A) (he : PE X o ta)
    (ht : eval (.Call (.Attribute o m apos) [] [] pos) X.env = (do
      let ov ← eval o X.env
      standAt apos.atName
      let (f, first) ← holding [ov] (getMethod ov m pl)
      callWith pos f first (backTo pos (starEach [] X.env)) (backToKw pos (keywordEach [] X.env))) := by rfl) :
    PE X (.Call (.Attribute o m apos) [] [] pos) (tMeth C m sp [] E0 ta tNil) := by
  obtain ⟨f, fd, c, me, F, b⟩ := G
  exact pe_meth0 (pl := pl) he c me F hr b .nil pass0 ht
theorem pe_mkC {X : Cx} {x : Str} {C : Addr} {k : Nat} {ps : List Str} {sp : Sp} {e : Expr} {es : List Expr} {t : TA} {p pos : Pos} (G : MakC X.prog X.w X.K X.mg X.base x C k ps sp) (hr : Room (k + 1) X.A) (hg : Gl X x) (ha : PA X (e :: es) t)
    (hdb : (x == ("__debug__" : Str)) = false := by decide) (he : starEach (e :: es) X.env = (false, eval e X.env) :: starEach es X.env := by rfl) (hpl : (backTo pos (starEach es X.env)).any (·.1) = false := by rfl) : PE X (.Call (.Name x p) (e :: es) [] pos) (tMake C sp [] E0 t) := by
  obtain ⟨f, fd, mk, F, m, b⟩ := G
  exact pe_make mk F hr hg m b .nil pass0 ha hdb he hpl
end
section
variable {K : PySem.W.Frag} {σ : L2.St} {H : Hp} {Q : VK} {v x y : V} {te tb : TE} {tr : TA} {C : Addr} {f : Str} {nx bk ct : L2.St → Hp → Prop} {rt : VK}
def fldK (K : PySem.W.Frag) (f : Str) (Q : VK) (x : V) (H : Hp) : Prop := ∃ a C dx fs v, x = .ref a ∧ H a = some (.ins C dx fs) ∧ Cls K C ∧ NoAttr K C f ∧ fs.lookup f = some v ∧ Q v H
theorem r_fld (q : te σ H fun x H1 => fldK K f Q x H1) : tFld K te f σ H Q := q
theorem q_fld {a dx : Addr} {fs : List (Str × V)} (h : H a = some (.ins C dx fs)) (c : Cls K C) (n : NoAttr K C f) (l : fs.lookup f = some v) (q : Q v H) : fldK K f Q (.ref a) H := ⟨a, C, dx, fs, v, rfl, h, c, n, l, q⟩
def metK (C : Addr) (m : Str) (sp : Sp) (tr : TA) (σ : L2.St) (Q : VK) (x : V) (H : Hp) : Prop := ∃ a dx fs, x = .ref a ∧ H a = some (.ins C dx fs) ∧ fs.lookup m = none ∧ tr σ H fun vs H2 => sp (x :: (vs ++ [])) H2 Q E0
theorem r_meth {m : Str} {sp : Sp} (q : te σ H fun x H1 => metK C m sp tr σ Q x H1) : tMeth C m sp [] E0 te tr σ H Q := q
theorem q_meth {m : Str} {sp : Sp} {a dx : Addr} {fs : List (Str × V)} (h : H a = some (.ins C dx fs)) (l : fs.lookup m = none) (q : tr σ H fun vs H2 => sp (.ref a :: vs) H2 Q E0) : metK C m sp tr σ Q (.ref a) H := by
  refine ⟨a, dx, fs, rfl, h, l, ?_⟩
  have e : (fun (vs : List V) (H2 : Hp) => sp (.ref a :: (vs ++ [])) H2 Q E0) = fun vs H2 => sp (.ref a :: vs) H2 Q E0 := by
    funext vs H2
    rw [List.append_nil]
  rw [e]
  exact q
def sfldK (K : PySem.W.Frag) (f : Str) (N : Hp → Prop) (y x : V) (H : Hp) : Prop := ∃ a C dx fs, x = .ref a ∧ H a = some (.ins C dx fs) ∧ Cls K C ∧ NoAttr K C f ∧ fs.length < 1000 ∧ N (upd H a (.ins C dx (putF f y fs)))
theorem r_sfld (q : tb σ H fun y H1 => te σ H1 fun x H2 => sfldK K f (nx σ) y x H2) : sFld K te tb f ⟨nx, rt, bk, ct⟩ σ H := q
theorem q_sfld {N : Hp → Prop} {a dx : Addr} {fs fs' : List (Str × V)} (h : H a = some (.ins C dx fs)) (c : Cls K C) (n : NoAttr K C f) (l : fs.length < 1000) (e : putF f y fs = fs') (q : N (upd H a (.ins C dx fs'))) : sfldK K f N y (.ref a) H := ⟨a, C, dx, fs, rfl, h, c, n, l, by rw [e]; exact q⟩
def afldK (K : PySem.W.Frag) (f : Str) (tb : TE) (rd : V → V → Hp → VK → Prop) (nx : L2.St → Hp → Prop) (σ : L2.St) (x : V) (H1 : Hp) : Prop := ∃ a C dx fs v, x = .ref a ∧ H1 a = some (.ins C dx fs) ∧ Cls K C ∧ NoAttr K C f ∧ fs.lookup f = some v ∧
  tb σ H1 fun y H2 => rd v y H2 fun z H3 => ∃ dx' fs', H3 a = some (.ins C dx' fs') ∧ fs'.length < 1000 ∧ nx σ (upd H3 a (.ins C dx' (putF f z fs')))
theorem r_afld {rd : V → V → Hp → VK → Prop} (q : te σ H fun x H1 => afldK K f tb rd nx σ x H1) : sFldAug K te tb rd f ⟨nx, rt, bk, ct⟩ σ H := q
theorem q_afld {rd : V → V → Hp → VK → Prop} {a dx : Addr} {fs : List (Str × V)} (h : H a = some (.ins C dx fs)) (c : Cls K C) (n : NoAttr K C f) (l : fs.lookup f = some v)
    (q : tb σ H fun y H2 => rd v y H2 fun z H3 => ∃ dx' fs', H3 a = some (.ins C dx' fs') ∧ fs'.length < 1000 ∧ nx σ (upd H3 a (.ins C dx' (putF f z fs')))) : afldK K f tb rd nx σ (.ref a) H := ⟨a, C, dx, fs, v, rfl, h, c, n, l, q⟩
def makK (C : Addr) (sp : Sp) (Q : VK) (vs : List V) (H : Hp) : Prop := ∀ x dx, H x = none → H dx = none → dx ≠ x → sp (.ref x :: vs) (upd (upd H dx (.own x)) x (.ins C dx [])) (fun v H2 => v = .non ∧ Q (.ref x) H2) E0
theorem r_make {sp : Sp} (q : tr σ H fun vs H1 => makK C sp Q vs H1) : tMake C sp [] E0 tr σ H Q := by
  have e : (fun (vs : List V) (H1 : Hp) => ∀ x dx, H1 x = none → H1 dx = none → dx ≠ x → sp (.ref x :: (vs ++ [])) (upd (upd H1 dx (.own x)) x (.ins C dx [])) (fun v H2 => v = .non ∧ Q (.ref x) H2) E0) = fun vs H1 => makK C sp Q vs H1 := by
    funext vs H1
    rw [List.append_nil]
    rfl
  show tr σ H _
  rw [e]
  exact q
theorem q_addF {i j : Int} (q : Q (.int (i + j)) H) : rAdd (.int i) (.int j) H Q := ⟨i, j, rfl, rfl, q⟩
theorem lk_hd {r : List (Str × V)} : List.lookup f ((f, v) :: r) = some v := by simp [List.lookup]
theorem lk_tl {g : Str} {u : V} {r : List (Str × V)} (h : decide (f = g) = false) : List.lookup f ((g, u) :: r) = List.lookup f r := by
  have h' : ¬ f = g := of_decide_eq_false h
  have h2 : (f == g) = false := by simpa using h'
  simp [List.lookup, h2]
theorem lk_tl' {g : Str} {u : V} {r : List (Str × V)} {o : Option V} (h : decide (f = g) = false) (q : List.lookup f r = o) : List.lookup f ((g, u) :: r) = o := (lk_tl h).trans q
theorem put_nil : putF f v [] = [(f, v)] := rfl
theorem put_hd {u : V} {r : List (Str × V)} : putF f v ((f, u) :: r) = (f, v) :: r := by
  show (if f = f then _ else _) = _
  rw [if_pos rfl]
theorem put_tl {g : Str} {u : V} {r r' : List (Str × V)} (h : decide (g = f) = false) (q : putF f v r = r') : putF f v ((g, u) :: r) = (g, u) :: r' := by
  show (if g = f then _ else _) = _
  rw [if_neg (of_decide_eq_false h), q]
end
local macro_rules | `(tactic| walk_at "lk") => `(tactic| first
  | exact lk_hd
  | exact rfl
  | (refine lk_tl' (by decide +kernel) ?_; walk_at "lk"))
local macro_rules | `(tactic| walk_at "put") => `(tactic| first
  | exact put_nil
  | exact put_hd
  | (refine put_tl (by decide +kernel) ?_; walk_at "put"))
local macro_rules | `(tactic| walk_at "cls") => `(tactic| assumption)
local macro_rules | `(tactic| walk_at "own") => `(tactic| first
  | with_reducible refine r_fld ?_
  | with_reducible refine r_make ?_
  | ((with_reducible refine q_fld (C := ?C) (dx := ?dx) (fs := ?fs) (v := ?v) ?h ?c ?n ?l ?_); (case h => walk_at "lift"); (case c => walk_at "cls"); (case n => walk_at "cls"); (case l => walk_at "lk"))
  | with_reducible refine r_meth ?_
  | ((with_reducible refine q_meth (dx := ?dx) (fs := ?fs) ?h ?l ?_); (case h => walk_at "lift"); (case l => walk_at "lk"))
  | with_reducible refine r_sfld ?_
  | with_reducible refine r_afld ?_
  | ((with_reducible refine q_afld (C := ?C) (dx := ?dx) (fs := ?fs) (v := ?v) ?h ?c ?n ?l ?_); (case h => walk_at "lift"); (case c => walk_at "cls"); (case n => walk_at "cls"); (case l => walk_at "lk"))
  | with_reducible refine q_addF ?_)
abbrev s__law_state : Stmt := topS 10
theorem sc__law_state : FnScope ["script", "seed", "cell"] ["script"] (defScope s__law_state) := ⟨rfl, rfl, rfl, by decide +kernel, rfl, by decide +kernel, by decide +kernel⟩
abbrev p__law_state : List Str := ["script"]
abbrev s__law_draw : Stmt := topS 11
theorem sc__law_draw : FnScope ["state", "many", "cells", "mixed", "number"] ["state", "many"] (defScope s__law_draw) := ⟨rfl, rfl, rfl, by decide +kernel, rfl, by decide +kernel, by decide +kernel⟩
abbrev p__law_draw : List Str := ["state", "many"]
abbrev s__law_pick : Stmt := topS 12
theorem sc__law_pick : FnScope ["state", "row"] ["state", "row"] (defScope s__law_pick) := ⟨rfl, rfl, rfl, by decide +kernel, rfl, by decide +kernel, by decide +kernel⟩
abbrev p__law_pick : List Str := ["state", "row"]
/-! ### the draws' state -/
structure StOk (st c : Addr) (H : Hp) : Prop where
  ex : ∃ (ns : List Int) (s : Int), H st = some (.lst [.ref c, .int s]) ∧ H c = some (.lst (ns.map V.int)) ∧ (∀ n ∈ ns, 0 ≤ n) ∧ 0 ≤ s ∧ s < 2147483648
  ne : c ≠ st
theorem st_ex {st c : Addr} {H H' : Hp} (e : Ex H H') (h : StOk st c H) : StOk st c H' := by
  obtain ⟨⟨ns, s, a, b, d⟩, n⟩ := h
  exact ⟨⟨ns, s, e _ _ a, e _ _ b, d⟩, n⟩
/-- a fresh address is neither -/
theorem st_fresh {st c p : Addr} {H : Hp} (h : StOk st c H) (hp : H p = none) : p ∉ [st, c] := by
  obtain ⟨⟨ns, s, a, b, d⟩, n⟩ := h
  simp only [List.mem_cons, List.not_mem_nil, or_false, not_or]
  exact ⟨(ne_of_none a hp).symm, (ne_of_none b hp).symm⟩
/-! ### heaps, further: one object changed, the rest as it was -/
theorem q_tyLs {K : PySem.W.Frag} {H : Hp} {p : Addr} {xs : List V} {A : Prop} (h : SqL K H p xs) (q : A) : tyV K "list" (.ref p) H ∧ A := ⟨Or.inl ⟨rfl, xs, h⟩, q⟩
theorem kp_one {H : Hp} {p : Addr} {o o' : HO} (h : H p = some o) (n : ∀ xs, o ≠ .tup xs) : Kp [p] H (upd H p o') := Kp.set (List.mem_singleton.mpr rfl) (fun xs z => by rw [h] at z; exact n xs (Option.some.inj z)) rfl
theorem nin_c {b a : Addr} {M : List Addr} (h : b ≠ a) (t : b ∉ M) : b ∉ a :: M := fun z => by
  rcases List.mem_cons.mp z with z | z
  · exact h z
  · exact t z
theorem ne_nw {H : Hp} {a b : Addr} {o : HO} (h : H b = some o) (hp : H a = none) : b ≠ a := ne_of_none h hp
theorem ne_knd {H : Hp} {a b : Addr} {o u : HO} (h : H a = some o) (h' : H b = some u) (n : o ≠ u) : a ≠ b := ne_of h h' n
theorem kp_sub1 {H H' : Hp} {M N : List Addr} (k : Kp M H H') (s : ∀ x, x ∈ M → x ∈ N) : Kp N H H' := k.sub s
theorem sub_hd1 {D : Addr} {M : List Addr} : ∀ x, x ∈ [D] → x ∈ D :: M := fun x h => by rw [List.mem_singleton.mp h]; exact List.mem_cons_self ..
theorem kp_fresh {M N : List Addr} {H H1 H' : Hp} (k : Kp M H H1) (k2 : Kp N H1 H') (f : ∀ x, x ∈ N → x ∈ M ∨ H x = none) : Kp M H H' := ⟨fun a xs h => k2.tup _ _ (k.tup _ _ h), fun a o n h => k2.out _ _ (fun z => by
  rcases f a z with q | q
  · exact n q
  · rw [q] at h; cases h) (k.out _ _ n h)⟩
theorem fsome {H : Hp} {D : Addr} {o : HO} (h : H D = some o) : H D ≠ none := fun z => by rw [h] at z; cases z
section
variable {K : PySem.W.Frag} {σ : L2.St} {H : Hp} {Q : VK} {v x y : V} {te tb : TE} {tr : TA} {C : Addr} {f : Str} {nx bk ct : L2.St → Hp → Prop} {rt : VK}
theorem q_appN {l : Addr} {xs : List V} (h : H l = some (.lst xs)) (hz : xs.length < 100000) (q : ∀ Hn, Kp [l] H Hn → Hn l = some (.lst (xs ++ [y])) → Q .non Hn) : rAppend (.ref l) [y] H Q := q_append h hz (q _ (kp_one h (by intro _ z; cases z)) upd_same)
theorem q_sfldN {N : Hp → Prop} {a dx : Addr} {fs fs' : List (Str × V)} (h : H a = some (.ins C dx fs)) (c : Cls K C) (n : NoAttr K C f) (l : fs.length < 1000) (e : putF f y fs = fs') (q : ∀ Hn, Kp [a] H Hn → Hn a = some (.ins C dx fs') → N Hn) : sfldK K f N y (.ref a) H :=
  q_sfld h c n l e (q _ (kp_one h (by intro _ z; cases z)) upd_same)
theorem q_pop0N {l : Addr} {xs : List V} (h : H l = some (.lst (x :: xs))) (q : ∀ Hn, Kp [l] H Hn → Hn l = some (.lst xs) → Q x Hn) : rPopAt (.ref l) [.int 0] H Q := q_pop0 h (q _ (kp_one h (by intro _ z; cases z)) upd_same)
theorem q_setLN {p : Addr} {xs : List V} {k : Int} {j : Nat} {QH : Hp → Prop} (h : H p = some (.lst xs)) (hj : ixN xs.length k = some j) (q : ∀ Hn, Kp [p] H Hn → Hn p = some (.lst (xs.set j v)) → QH Hn) : rSetL (.ref p) (.int k) v H QH := q_setL h hj (q _ (kp_one h (by intro _ z; cases z)) upd_same)
theorem q_dgetI {p : Addr} {kvs : List (Key × V)} {n : Int} {B : V → Prop} (h : H p = some (.dK kvs)) (hl : valV kvs (Sum.inl n) = some v) (q : B v) : ∃ a v', V.ref p = .ref a ∧ DGet H a (.int n) (some v') ∧ B v' :=
  ⟨p, v, rfl, by rw [← hl]; exact DGet.k (k := Sum.inl n) h, q⟩
theorem f_dput {td ty tv : TE} (q : tv σ H fun v H1 => td σ H1 fun x H2 => ty σ H2 fun y H3 => ∃ a H4, x = .ref a ∧ DPut H3 a y v H4 ∧ nx σ H4) : sDPut td ty tv ⟨nx, rt, bk, ct⟩ σ H := q
theorem q_dputI {p : Addr} {kvs : List (Key × V)} {n : Int} {B : Hp → Prop} (h : H p = some (.dK kvs)) (hl : kvs.length ≤ 1000) (q : ∀ Hn, Kp [p] H Hn → Hn p = some (.dK (putK kvs (Sum.inl n) v)) → B Hn) : ∃ a H', V.ref p = .ref a ∧ DPut H a (.int n) v H' ∧ B H' :=
  ⟨p, _, rfl, DPut.k (k := Sum.inl n) h (sl1000' (by omega)), q _ (kp_one h (by intro _ z; cases z)) upd_same⟩
theorem q_dputS {p : Addr} {kvs : List (Key × V)} {z : Str} {B : Hp → Prop} (h : H p = some (.dK kvs)) (hl : kvs.length ≤ 1000) (q : ∀ Hn, Kp [p] H Hn → Hn p = some (.dK (putK kvs (Sum.inr z) v)) → B Hn) : ∃ a H', V.ref p = .ref a ∧ DPut H a (.str z) v H' ∧ B H' :=
  ⟨p, _, rfl, DPut.k (k := Sum.inr z) h (sl1000' (by omega)), q _ (kp_one h (by intro _ z; cases z)) upd_same⟩
theorem q_truC {B : Bool → Prop} {a : Addr} {xs : List V} (h : SqL K H a (x :: xs)) (q : B true) : ∃ k, TruV K (.ref a) H k ∧ B k := ⟨_, .inl ⟨_, h, rfl⟩, q⟩
theorem q_truN {B : Bool → Prop} {a : Addr} (h : SqL K H a []) (q : B false) : ∃ k, TruV K (.ref a) H k ∧ B k := ⟨_, .inl ⟨_, h, rfl⟩, q⟩
theorem f_truth {QT : Bool → Hp → Prop} (q : te σ H fun x H' => ∃ k, TruV K x H' k ∧ QT k H') : (fun σ H (Q : Bool → Hp → Prop) => te σ H fun x H' => ∃ k, TruV K x H' k ∧ Q k H') σ H QT := q
theorem q_isiL {p : Addr} {xs : List V} (h : H p = some (.lst xs)) (q : Q (.bl true) H) : rIsi K [.ref p, .ty "list"] H Q := q_isi (.lst h) (kit_ty (r := true) (by decide +kernel)) q
theorem q_isiTp {p : Addr} {xs : List V} (h : H p = some (.tup xs)) (q : Q (.bl true) H) : rIsi K [.ref p, .ty "tuple"] H Q := q_isi (.tup h) (kit_ty (r := true) (by decide +kernel)) q
theorem q_isiLT {p : Addr} {xs : List V} (h : H p = some (.tup xs)) (q : Q (.bl false) H) : rIsi K [.ref p, .ty "list"] H Q := q_isi (.tup h) (kit_ty (r := false) (by decide +kernel)) q
theorem q_isiBB {b : Bool} (q : Q (.bl true) H) : rIsi K [.bl b, .ty "bool"] H Q := q_isi (.bl b) (kit_ty (by decide +kernel)) q
end
local macro_rules | `(tactic| walk_at "nin") => `(tactic| first
  | assumption
  | exact List.not_mem_nil
  | (refine st_fresh (H := ?H) ?a ?b; (case b => assumption); (case a => walk_at "st_ok"))
  | (refine nin_c (by walk_at "ne1") ?_; walk_at "nin"))
local macro_rules | `(tactic| walk_at "ne1") => `(tactic| first
  | assumption
  | exact Ne.symm (by assumption)
  | (refine ne_nw (H := ?hh) (o := ?u) ?a ?b; (case b => assumption); (case a => walk_at "lift"))
  | (refine Ne.symm ?_; refine ne_nw (H := ?hh) (o := ?u) ?a ?b; (case b => assumption); (case a => walk_at "lift")))
local macro_rules | `(tactic| walk_at "putx") => `(tactic| first
  | exact put_nil
  | exact put_hd
  | (refine put_tl (r' := ?rr) ?hh ?qq; (case hh => decide +kernel); (case qq => walk_at "putx")))
local macro_rules | `(tactic| walk_at "len2") => `(tactic| first
  | decide
  | omega
  | exact of_decide_eq_true rfl
  | (simp only [List.length_cons, List.length_nil, List.length_append, List.length_map, List.length_take]; omega))
theorem r_dnewN {σ : L2.St} {H : Hp} {Q : VK} (q : ∀ p Hn, H p = none → Ex H Hn → Hn p = some (.dK []) → Q (.ref p) Hn) : tDNewK σ H Q := fun p hp => q p _ hp (Ex.mk hp rfl) upd_same
set_option hygiene false in
local macro_rules | `(tactic| walk_at "i_upd") => `(tactic| intro Hn ku hu)
local macro_rules | `(tactic| walk_at "own") => `(tactic| first
  | ((with_reducible refine q_tyLs (xs := ?xs) ?h ?_); (case h => walk_at "sq"))
  | ((with_reducible refine q_appN (xs := ?xs) ?h ?z ?_); (case h => walk_at "lift"); (case z => walk_at "len2"); walk_at "i_upd")
  | ((with_reducible refine q_setLN (xs := ?xs) (j := ?j) ?h ?e ?_); (case h => walk_at "lift"); (case e => first | exact rfl | exact ix0); walk_at "i_upd")
  | ((with_reducible refine q_pop0N (x := ?x) (xs := ?xs) ?h ?_); (case h => walk_at "lift"); walk_at "i_upd")
  | ((with_reducible refine q_sfldN (C := ?C) (dx := ?dx) (fs := ?fs) (fs' := ?fs') ?h ?c ?n ?l ?e ?_); (case h => walk_at "lift"); (case c => walk_at "cls"); (case n => walk_at "cls"); (case l => walk_at "len2"); (case e => walk_at "putx"); walk_at "i_upd")
  | with_reducible refine f_dput ?_
  | ((with_reducible refine q_rng1 ?h ?_); (case h => simp only [List.length_map]; omega))
  | (with_reducible refine r_dnewN ?_; walk_at "i_new")
  | ((with_reducible refine q_truC (x := ?x) (xs := ?xs) ?h ?_); (case h => walk_at "sq"))
  | ((with_reducible refine q_truN ?h ?_); (case h => walk_at "sq"))
  | ((with_reducible refine q_isiL (xs := ?xs) ?h ?_); (case h => walk_at "lift"))
  | ((with_reducible refine q_isiTp (xs := ?xs) ?h ?_); (case h => walk_at "lift"))
  | ((with_reducible refine q_isiLT (xs := ?xs) ?h ?_); (case h => walk_at "lift"))
  | with_reducible refine q_isiBB ?_)
/-! ### data of tuples -/
mutual
inductive Tp (H : Hp) : V → PyData → Prop
  | non : Tp H .non .none
  | bl (b : Bool) : Tp H (.bl b) (.bool b)
  | int (i : Int) : Tp H (.int i) (.int i)
  | str (x : Str) : Tp H (.str x) (.str x)
  | tup {a : Addr} {xs : List V} {ds : List PyData} : H a = some (.tup xs) → Tps H xs ds → Tp H (.ref a) (.tuple ds)
inductive Tps (H : Hp) : List V → List PyData → Prop
  | nil : Tps H [] []
  | cons {v : V} {vs : List V} {d : PyData} {ds : List PyData} : Tp H v d → Tps H vs ds → Tps H (v :: vs) (d :: ds)
end
mutual
theorem tp_kp {M : List Addr} {H H' : Hp} (k : Kp M H H') : ∀ {v : V} {d : PyData}, Tp H v d → Tp H' v d
  | _, _, .non => .non
  | _, _, .bl b => .bl b
  | _, _, .int i => .int i
  | _, _, .str x => .str x
  | _, _, .tup h t => .tup (k.tup _ _ h) (tps_kp k t)
theorem tps_kp {M : List Addr} {H H' : Hp} (k : Kp M H H') : ∀ {vs : List V} {ds : List PyData}, Tps H vs ds → Tps H' vs ds
  | _, _, .nil => .nil
  | _, _, .cons h t => .cons (tp_kp k h) (tps_kp k t)
end
theorem tp_ex {H H' : Hp} (k : Ex H H') {v : V} {d : PyData} (h : Tp H v d) : Tp H' v d := tp_kp (M := []) k.kp h
theorem tps_ex {H H' : Hp} (k : Ex H H') {v : List V} {d : List PyData} (h : Tps H v d) : Tps H' v d := tps_kp (M := []) k.kp h
mutual
theorem tp_dp {K : PySem.W.Frag} {H : Hp} : ∀ {v : V} {d : PyData}, Tp H v d → Dp K H v d
  | _, _, .non => .non
  | _, _, .bl b => .bl b
  | _, _, .int i => .int i
  | _, _, .str x => .str x
  | _, _, .tup h t => .tup (sqt h) (tps_dp t)
theorem tps_dp {K : PySem.W.Frag} {H : Hp} : ∀ {vs : List V} {ds : List PyData}, Tps H vs ds → DpAll K H vs ds
  | _, _, .nil => .nil
  | _, _, .cons h t => .cons (tp_dp h) (tps_dp t)
end
theorem tps_app {H : Hp} : ∀ {vs ws : List V} {ds es : List PyData}, Tps H vs ds → Tps H ws es → Tps H (vs ++ ws) (ds ++ es)
  | _, _, _, _, .nil, h => h
  | _, _, _, _, .cons a t, h => .cons a (tps_app t h)
theorem tps_len {H : Hp} : ∀ {vs : List V} {ds : List PyData}, Tps H vs ds → vs.length = ds.length
  | _, _, .nil => rfl
  | _, _, .cons _ t => by rw [List.length_cons, List.length_cons, tps_len t]
def fInts (ns : List Int) : List PyData := ns.map PyData.int
theorem tps_ints {H : Hp} : ∀ ns : List Int, Tps H (ns.map V.int) (fInts ns)
  | [] => .nil
  | n :: r => .cons (.int n) (tps_ints r)
theorem fints_dp {K : PySem.W.Frag} {H : Hp} : ∀ ns : List Int, DpAll K H (ns.map V.int) (fInts ns)
  | [] => .nil
  | n :: r => .cons (.int n) (fints_dp r)
theorem fints_lay : ∀ ns : List Int, PyData.canLayAll0 (fInts ns) = true
  | [] => by simp [fInts, PyData.canLayAll0]
  | c :: r => by
    have h := fints_lay r
    simp only [fInts] at h
    simp [fInts, PyData.canLayAll0, PyData.canLay0, h]
theorem fints_depth : ∀ ns : List Int, PyData.depthAll (fInts ns) = 0
  | [] => by simp [fInts, PyData.depthAll]
  | c :: r => by
    have h := fints_depth r
    simp only [fInts] at h
    simp [fInts, PyData.depthAll, PyData.depth, h]
theorem flay_map {α : Type} {f : α → PyData} : ∀ xs : List α, (∀ x ∈ xs, (f x).canLay0 = true) → PyData.canLayAll0 (xs.map f) = true
  | [], _ => by simp [PyData.canLayAll0]
  | c :: r, h => by simp [PyData.canLayAll0, h c (List.mem_cons_self ..), flay_map r fun x hx => h x (List.mem_cons_of_mem _ hx)]
theorem fdepth_map {α : Type} {f : α → PyData} {b : Nat} : ∀ xs : List α, (∀ x ∈ xs, (f x).depth ≤ b) → PyData.depthAll (xs.map f) ≤ b
  | [], _ => by simp [PyData.depthAll]
  | c :: r, h => by
    have h1 := h c (List.mem_cons_self ..)
    have h2 := fdepth_map r fun x hx => h x (List.mem_cons_of_mem _ hx)
    simp only [List.map_cons, PyData.depthAll]
    omega
theorem flist_shaped {ds : List PyData} (h1 : PyData.canLayAll0 ds = true) (h2 : PyData.depthAll ds ≤ 20) : SeqAt.shaped (.list ds) = true := by
  have h3 : PyData.depthAll ds + 1 ≤ 64 := by omega
  simp [SeqAt.shaped, PyData.canLay0, PyData.depth, h1, h3]
theorem fq_eqDat {K : PySem.W.Frag} {H : Hp} {Q : VK} {a b : V} {ds : List PyData} (h1 : Dp K H a (.list ds)) (h2 : Dp K H b (.list ds)) (l : PyData.canLayAll0 ds = true) (d : PyData.depthAll ds ≤ 20) (q : Q (.bl true) H) : rEqA K a b H Q :=
  .inr ⟨_, _, h1, h2, flist_shaped l d, flist_shaped l d, by rw [SeqAt.eqv_refl _ (by simp [PyData.canLay0, l])]; exact q⟩
theorem fq_neDat {K : PySem.W.Frag} {H : Hp} {Q : VK} {a b : V} {ds : List PyData} (h1 : Dp K H a (.list ds)) (h2 : Dp K H b (.list ds)) (l : PyData.canLayAll0 ds = true) (d : PyData.depthAll ds ≤ 20) (q : Q (.bl false) H) : rNeA K a b H Q :=
  .inr ⟨_, _, h1, h2, flist_shaped l d, flist_shaped l d, by rw [SeqAt.eqv_refl _ (by simp [PyData.canLay0, l])]; exact q⟩
theorem fq_neInts {K : PySem.W.Frag} {H : Hp} {Q : VK} {a b : Addr} {ns : List Int} (h1 : H a = some (.lst (ns.map V.int))) (h2 : H b = some (.lst (ns.map V.int))) (q : Q (.bl false) H) : rNeA K (.ref a) (.ref b) H Q :=
  fq_neDat (.lst (sql h1) (fints_dp ns)) (.lst (sql h2) (fints_dp ns)) (fints_lay ns) (by rw [fints_depth]; omega) q
theorem fq_eqInts {K : PySem.W.Frag} {H : Hp} {Q : VK} {a b : Addr} {ns : List Int} (h1 : H a = some (.lst (ns.map V.int))) (h2 : H b = some (.lst (ns.map V.int))) (q : Q (.bl true) H) : rEqA K (.ref a) (.ref b) H Q :=
  fq_eqDat (.lst (sql h1) (fints_dp ns)) (.lst (sql h2) (fints_dp ns)) (fints_lay ns) (by rw [fints_depth]; omega) q
local macro_rules | `(tactic| walk_at "tp") => `(tactic| first
  | assumption
  | exact Tp.int _
  | exact Tp.str _
  | exact Tp.non
  | exact Tp.bl _
  | (refine Tp.tup (xs := ?xs) ?h ?t; (case h => walk_at "lift"); (case t => walk_at "tps"))
  | (refine tp_ex (by assumption) ?_; walk_at "tp")
  | (refine tp_kp (by assumption) ?_; walk_at "tp"))
local macro_rules | `(tactic| walk_at "tps") => `(tactic| first
  | assumption
  | exact Tps.nil
  | (refine Tps.cons ?h ?t; (case h => walk_at "tp"); (case t => walk_at "tps"))
  | (refine tps_ex (by assumption) ?_; walk_at "tps")
  | (refine tps_kp (by assumption) ?_; walk_at "tps"))
/-! ### frames over several steps -/
theorem subf_n {M : List Addr} {H : Hp} : ∀ x, x ∈ ([] : List Addr) → x ∈ M ∨ H x = none := fun _ h => absurd h List.not_mem_nil
theorem subf_c {M N : List Addr} {H : Hp} {a : Addr} (h : a ∈ M ∨ H a = none) (t : ∀ x, x ∈ N → x ∈ M ∨ H x = none) : ∀ x, x ∈ a :: N → x ∈ M ∨ H x = none := fun x hx => by
  rcases List.mem_cons.mp hx with rfl | hx
  · exact h
  · exact t x hx
theorem ex_of_kp {H H' : Hp} (k : Kp [] H H') : Ex H H' := fun a o h => k.out a o List.not_mem_nil h
local macro_rules | `(tactic| walk_at "frees") => `(tactic| first
  | assumption
  | (refine free_back (by assumption) ?_; walk_at "frees")
  | (refine free_backK (by assumption) (by walk_at "nin") ?_; walk_at "frees"))
local macro_rules | `(tactic| walk_at "mem") => `(tactic| first
  | exact List.mem_cons_self ..
  | (refine List.mem_cons_of_mem _ ?_; walk_at "mem"))
local macro_rules | `(tactic| walk_at "subf") => `(tactic| first
  | exact subf_n
  | (refine subf_c ?a ?t; (case a => first | (refine Or.inl ?_; walk_at "mem") | (refine Or.inr ?_; walk_at "frees") | fail); (case t => walk_at "subf")))
local macro_rules | `(tactic| walk_at "kpx") => `(tactic| first
  | assumption
  | exact Kp.refl _
  | (refine Kp.trans ?_ (Ex.kp (by assumption)); walk_at "kpx")
  | (refine kp_fresh ?k (by assumption) ?f; (case f => walk_at "subf"); (case k => walk_at "kpx")))
local macro_rules | `(tactic| walk_at "exx") => `(tactic| first
  | assumption
  | exact Ex.refl _
  | (refine ex_of_kp ?_; walk_at "kpx"))
theorem st_kpx {st c : Addr} {M : List Addr} {H H' : Hp} (k : Kp M H H') (n : ∀ x, x ∈ M → x ∉ [st, c]) (h : StOk st c H) : StOk st c H' := by
  obtain ⟨⟨ns, s, a, b, d⟩, e⟩ := h
  exact ⟨⟨ns, s, k.out _ _ (fun z => n _ z (by simp)) a, k.out _ _ (fun z => n _ z (by simp)) b, d⟩, e⟩
theorem alln_n {S : List Addr} : ∀ x, x ∈ ([] : List Addr) → x ∉ S := fun _ h => absurd h List.not_mem_nil
theorem alln_c {S M : List Addr} {a : Addr} (h : a ∉ S) (t : ∀ x, x ∈ M → x ∉ S) : ∀ x, x ∈ a :: M → x ∉ S := fun x hx => by
  rcases List.mem_cons.mp hx with rfl | hx
  · exact h
  · exact t x hx
local macro_rules | `(tactic| walk_at "alln") => `(tactic| first
  | assumption
  | exact alln_n
  | (refine alln_c ?a ?t; (case a => walk_at "nin"); (case t => walk_at "alln")))
local macro_rules | `(tactic| walk_at "st_ok") => `(tactic| first
  | assumption
  | (refine st_ex (by assumption) ?_; walk_at "st_ok")
  | (refine st_kpx (by assumption) ?n ?hh; (case hh => walk_at "st_ok"); (case n => walk_at "alln")))
theorem q_catN {K : PySem.W.Frag} {H : Hp} {Q : VK} {a b : Addr} {xs ys : List V} (h1 : H a = some (.lst xs)) (h2 : H b = some (.lst ys)) (z : xs.length + ys.length ≤ 100000) (q : ∀ p Hn, H p = none → Ex H Hn → Hn p = some (.lst (xs ++ ys)) → Q (.ref p) Hn) : rAddA K (.ref a) (.ref b) H Q :=
  .inr (.inr (.inl ⟨a, b, xs, ys, rfl, rfl, h1, h2, sl1000 z, fun p hp => q p _ hp (Ex.mk hp rfl) upd_same⟩))
local macro_rules | `(tactic| walk_at "own") => `(tactic| first
  | ((with_reducible refine q_catN (xs := ?xs) (ys := ?ys) ?h1 ?h2 ?z ?_); (case h1 => walk_at "lift"); (case h2 => walk_at "lift"); (case z => walk_at "len2"); walk_at "i_new"))
theorem r_par {σ : L2.St} {H : Hp} {ta : TA} {i j : Nat} {nx bk ct : L2.St → Hp → Prop} {rt : VK} (q : ta σ H fun vs H1 => ∃ v w, vs = [v, w] ∧ nx ((σ.set i (some v)).set j (some w)) H1) : tPar i j ta ⟨nx, rt, bk, ct⟩ σ H := q
theorem q_par {x y : V} {B : V → V → Prop} (q : B x y) : ∃ v w, [x, y] = [v, w] ∧ B v w := ⟨x, y, rfl, q⟩
local macro_rules | `(tactic| walk_at "own") => `(tactic| first
  | with_reducible refine r_par ?_
  | with_reducible refine q_par ?_)
local macro_rules | `(tactic| walk_at "arx") => `(tactic| first
  | omega
  | decide
  | (simp only [List.length_cons, List.length_nil, List.length_map, List.length_append]; omega))
local macro_rules | `(tactic| walk_at "kp") => `(tactic| first
  | assumption
  | exact Kp.refl _
  | (refine Kp.trans ?_ (by assumption); walk_at "kp")
  | (refine Kp.trans ?_ (Ex.kp (by assumption)); walk_at "kp"))
theorem int_mod (a : Int) {m : Int} (h : 0 < m) : 0 ≤ a % m ∧ a % m < m := ⟨Int.emod_nonneg _ (by omega), Int.emod_lt_of_pos _ h⟩
def sp_state (K : PySem.W.Frag) : Sp := fun vs H Q _ => ∃ (a : Addr) (ns : List Int), vs = [.ref a] ∧ SqL K H a (ns.map V.int) ∧ ns.length ≤ 63 ∧ ∀ st c H', Ex H H' → H st = none → H c = none → StOk st c H' → Q (.ref st) H'
theorem ex_sql {H H' : Hp} {a : Addr} {xs : List V} (e : Ex H H') (h : SqL K H a xs) : SqL K H' a xs := e.same.seq h
theorem abs_nn (i : Int) : 0 ≤ (if i < 0 then -i else i) := by split <;> omega
theorem ok_state (T : Glo K w mg) (D : Dn K mg "_law_state" s__law_state p__law_state) : Cal P w K mg base "_law_state" 1 p__law_state (sp_state K) := by
  refine D.ok sc__law_state (fun vs H Q E h => ?_) (fun f cdv A outer s H vs Q E hr h => ?_)
  · obtain ⟨_, _, rfl, _⟩ := h
    rfl
  obtain ⟨a, ns, rfl, hs, hl, q⟩ := h
  refine ⟨_, (pss_cons (ps_set (i := 1) sc__law_state.nd rfl (by first | exact Or.inl rfl | exact Or.inr rfl) pe_int) (pss_cons (ps_for PassesOwn.never rfl (pi_list (pv 0)) (pg_name (i := 2) sc__law_state.nd rfl (by first | exact Or.inl rfl | exact Or.inr rfl)) (pss_one (ps_set (i := 1) sc__law_state.nd rfl (by first | exact Or.inl rfl | exact Or.inr rfl) (pe_op op_mod (pe_callTy call_intA rfl T.n_int (by decide +kernel) (pa_cons (pe_op op_addA (pe_op op_mul (pv 1) pe_int) (pv 2)) pa_nil)) pe_int)))) (pss_one (ps_ret (pe_lst (pa_cons (pe_lc (own := [("cell", 2)]) (tt := tYes) rfl sc__law_state.nd (pi_list (pv 0)) (blkOk_by (N := ["script", "seed", "cell"]) (sc := defScope s__law_state) (by decide +kernel)) (fun _ _ _ _ _ => (pg_name (i := 2) sc__law_state.nd rfl (by first | exact Or.inl rfl | exact Or.inr rfl))) (fun _ _ _ _ _ => pts_nil) (fun _ _ _ _ _ => (pe_callB call_absA rfl T.n_abs (by decide +kernel) (pa_cons (pv 2) pa_nil)))) (pa_cons (pe_op op_addA (pv 1) pe_int) pa_nil))))))), ?_⟩
  try dsimp only [cxOf, Cx.nox]
  repeat' walk_at "st"
  refine w_list (xs := ns.map V.int) (fun i σ H' => H' = H ∧ ∃ (z : Int) (y : Option V), σ = [some (.ref a), some (.int z), y] ∧ 0 ≤ z ∧ z < 1000003) ?_ ?_ ?_ ?_
  · exact ⟨rfl, 7, none, rfl, by decide, by decide⟩
  · rintro i σ H' _ ⟨rfl, _⟩
    exact hs
  · rintro i x σ H' hx ⟨rfl, z, y, rfl, z0, z1⟩
    rw [List.getElem?_map] at hx
    obtain ⟨n, hn, rfl⟩ := Option.map_eq_some_iff.mp hx
    repeat' walk_at "st"
    refine ⟨rfl, _, some (.int n), rfl, ?_⟩
    exact int_mod _ (by decide)
  · rintro σ H' ⟨rfl, z, y, rfl, z0, z1⟩
    repeat' walk_at "st"
    intro L hL
    refine lc_list (xs := ns.map V.int) (fun i H2 => Ex H' H2 ∧ H2 L = some (.lst ((ns.take i).map fun n => V.int (if n < 0 then -n else n)))) ?_ ?_ ?_ ?_
    · exact ⟨Ex.mk hL rfl, upd_same⟩
    · rintro i H2 _ ⟨e, _⟩
      exact ex_sql e hs
    · rintro i x H2 hx ⟨e, h2⟩
      rw [List.getElem?_map] at hx
      obtain ⟨n, hn, rfl⟩ := Option.map_eq_some_iff.mp hx
      refine ⟨rfl, ?_⟩
      repeat' walk_at "st"
      refine ⟨_, h2, sl1000' ?_, ?_, ?_⟩
      · rw [List.length_map, List.length_take]
        omega
      · intro b u hb
        rw [upd_ne (ne_of_none hb hL)]
        exact e _ _ hb
      · rw [upd_same, List.take_add_one, hn, List.map_append]
        rfl
    · rintro H2 ⟨e, h2⟩
      repeat' walk_at "st"
      rw [List.take_of_length_le (by rw [List.length_map]; exact Nat.le_refl _)] at h2
      refine q p L _ (e.trans ke) (free_back e hp) hL ⟨⟨ns.map fun n => (if n < 0 then -n else n), z + 1, hn, ?_, ?_, by omega, by omega⟩, ?_⟩
      · rw [List.map_map]
        exact ke _ _ h2
      · intro n hn
        obtain ⟨m, _, rfl⟩ := List.mem_map.mp hn
        exact abs_nn m
      · exact ne_of_none h2 hp
def sp_draw : Sp := fun vs H Q _ => ∃ (st c : Addr) (many : Int), vs = [.ref st, .int many] ∧ StOk st c H ∧ 0 < many ∧ many < 1073741824 ∧ ∀ (n : Int) (H' : Hp), 0 ≤ n → n < many → Kp [st, c] H H' → StOk st c H' → Q (.int n) H'
theorem ok_draw (T : Glo K w mg) (D : Dn K mg "_law_draw" s__law_draw p__law_draw) : Cal P w K mg base "_law_draw" 1 p__law_draw sp_draw := by
  refine D.ok sc__law_draw (fun vs H Q E h => ?_) (fun f cdv A outer s H vs Q E hr h => ?_)
  · obtain ⟨_, _, _, rfl, _⟩ := h
    rfl
  obtain ⟨st, c, many, rfl, ⟨⟨ns, z, hst, hc, hn, z0, z1⟩, hne⟩, m0, m1, q⟩ := h
  refine ⟨_, (pss_cons (ps_set (i := 2) sc__law_draw.nd rfl (by first | exact Or.inl rfl | exact Or.inr rfl) (pe_ix ix_seq (pv 0) pe_int (fun _ _ => rfl))) (pss_cons (ps_while PassesOwn.never (PW.pt (pw_and (pt_cmpR op_gt (pe_callB call_lenA rfl T.n_len (by decide +kernel) (pa_cons (pv 2) pa_nil)) pe_int (nomark _)) (pw_and1 (pt_cmpR (op_eqA (hu64 hr)) (pe_ix ix_seq (pv 2) pe_int (fun _ _ => rfl)) pe_int (nomark _))))) (pss_one (ps_expr (pe_bm PySem.F.plainAttrs_list PySem.F.slot_list_pop PySem.F.type_list_pop mt_popAt (pv 2) (pa_cons pe_int pa_nil))))) (pss_cons (ps_if (pt_cmpR op_gt (pe_callB call_lenA rfl T.n_len (by decide +kernel) (pa_cons (pv 2) pa_nil)) pe_int (nomark _)) (pss_cons (ps_set (i := 4) sc__law_draw.nd rfl (by first | exact Or.inl rfl | exact Or.inr rfl) (pe_ix ix_seq (pv 2) pe_int (fun _ _ => rfl))) (pss_cons (ps_asg (pe_op op_fdiv (pv 4) (pv 1)) (pg_sub (pv 2) pe_int set_list)) (pss_one (ps_ret (pe_op op_mod (pe_callTy call_intA rfl T.n_int (by decide +kernel) (pa_cons (pv 4) pa_nil)) (pv 1)))))) pss_nil) (pss_cons (ps_set (i := 3) sc__law_draw.nd rfl (by first | exact Or.inl rfl | exact Or.inr rfl) (pe_op op_mod (pe_callTy call_intA rfl T.n_int (by decide +kernel) (pa_cons (pe_op op_addA (pe_op op_mul (pe_ix ix_seq (pv 0) pe_int (fun _ _ => rfl)) pe_int) pe_int) pa_nil)) pe_int)) (pss_cons (ps_asg (pv 3) (pg_sub (pv 0) pe_int set_list)) (pss_one (ps_ret (pe_op op_mod (pe_callTy call_intA rfl T.n_int (by decide +kernel) (pa_cons (pe_op op_fdiv (pv 3) pe_int) pa_nil)) (pv 1))))))))), ?_⟩
  try dsimp only [cxOf, Cx.nox]
  repeat' walk_at "st"
  refine w_while (fun m σ H' => ∃ ns' : List Int, m = ns'.length ∧ σ = [some (.ref st), some (.int many), some (.ref c), none, none] ∧ H' st = some (.lst [.ref c, .int z]) ∧ H' c = some (.lst (ns'.map V.int)) ∧ (∀ n ∈ ns', 0 ≤ n) ∧ Kp [st, c] H H') ns.length ⟨ns, rfl, rfl, hst, hc, hn, Kp.refl _⟩ ?_ ?_
  · rintro m σ H' ⟨ns', rfl, rfl, h1, h2, h3, h4⟩
    have mc : c ∈ [st, c] := by simp
    have mst : st ∈ [st, c] := by simp
    have ht : ∀ xs, H' st ≠ some (.tup xs) := fun xs e => by rw [h1] at e; cases e
    have hu : ∀ xs, H' c ≠ some (.tup xs) := fun xs e => by rw [h2] at e; cases e
    cases ns' with
    | nil =>
      repeat' walk_at "st"
      have hz := int_mod (z * 48271 + 12345) (m := 2147483647) (by decide)
      exact q _ Hn (int_mod _ m0).1 (int_mod _ m0).2 (h4.trans (ku.sub fun x hx => by rw [List.mem_singleton.mp hx]; exact mst)) ⟨⟨[], _, hu, ku.out _ _ (nin_c hne List.not_mem_nil) h2, h3, hz.1, Int.lt_trans hz.2 (by decide)⟩, hne⟩
    | cons n r =>
      rw [List.map_cons] at h2
      have hn0 := h3 n (List.mem_cons_self ..)
      have hr0 : ∀ n ∈ r, 0 ≤ n := fun k hk => h3 k (List.mem_cons_of_mem _ hk)
      repeat' walk_at "st"
      · exact ⟨r.length, Nat.lt_succ_self _, r, rfl, rfl, ku.out _ _ (nin_c (Ne.symm hne) List.not_mem_nil) h1, hu, hr0, h4.trans (ku.sub fun x hx => by rw [List.mem_singleton.mp hx]; exact mc)⟩
      · refine q _ Hn (int_mod _ m0).1 (int_mod _ m0).2 (h4.trans (ku.sub fun x hx => by rw [List.mem_singleton.mp hx]; exact mc)) ⟨⟨n / many :: r, z, ku.out _ _ (nin_c (Ne.symm hne) List.not_mem_nil) h1, hu, ?_, z0, z1⟩, hne⟩
        intro k hk
        rcases List.mem_cons.mp hk with rfl | hk
        · exact Int.ediv_nonneg hn0 (by omega)
        · exact hr0 _ hk
  · intro σ H Q Q' hQ h
    exact mo_and (mo_test (mo_op mo_I0 (mo_cb mo_lenA (mo_cons mo_var mo_nil)) mo_c)) (mo_test (mo_op mo_eqA (mo_op mo_ix mo_var mo_c) mo_c)) _ _ _ _ hQ h
theorem c_draw {st c : Addr} {many : Int} {H : Hp} {Q : VK} {E : XK} (h1 : StOk st c H) (h2 : 0 < many ∧ many < 1073741824) (q : ∀ (n : Int) (H' : Hp), 0 ≤ n → n < many → Kp [st, c] H H' → StOk st c H' → Q (.int n) H') :
    sp_draw [.ref st, .int many] H Q E := ⟨st, c, many, rfl, h1, h2.1, h2.2, q⟩
set_option hygiene false in
local macro_rules | `(tactic| walk_at "i_c_draw") => `(tactic| intro dn Hn n0 n1 ke so)
local macro_rules | `(tactic| walk_at "own") => `(tactic| (refine c_draw (c := ?c) ?a ?b ?_; (case a => walk_at "st_ok"); (case b => walk_at "arx2"); walk_at "i_c_draw"))
local macro_rules | `(tactic| walk_at "arx2") => `(tactic| first
  | (refine And.intro ?_ ?_ <;> omega)
  | (simp only [List.length_cons, List.length_nil, List.length_map, List.length_append]; refine And.intro ?_ ?_ <;> omega)
  | (refine And.intro ?_ ?_ <;> decide +kernel))
def sp_pick (K : PySem.W.Frag) : Sp := fun vs H Q _ => ∃ (st c a : Addr) (xs : List V), vs = [.ref st, .ref a] ∧ StOk st c H ∧ H a = some (.lst xs) ∧ a ∉ [st, c] ∧ 0 < xs.length ∧ xs.length < 1000000 ∧ ∀ (i : Nat) (v : V) (H' : Hp), xs[i]? = some v → Kp [st, c] H H' → StOk st c H' → Q v H'
theorem ok_pick (T : Glo K w mg) (D : Dn K mg "_law_pick" s__law_pick p__law_pick) (G__law_draw : Cal P w K mg base "_law_draw" 1 p__law_draw sp_draw) : Cal P w K mg base "_law_pick" 2 p__law_pick (sp_pick K) := by
  refine D.ok sc__law_pick (fun vs H Q E h => ?_) (fun f cdv A outer s H vs Q E hr h => ?_)
  · obtain ⟨_, _, _, _, rfl, _⟩ := h
    rfl
  obtain ⟨st, c, a, xs, rfl, so, ha, hn, l0, l1, q⟩ := h
  refine ⟨_, (pss_one (ps_ret (pe_ix ix_seq (pv 1) (pe_cal G__law_draw (hr.mono (by walk_at "lev")) rfl (pa_cons (pv 0) (pa_cons (pe_callB call_lenA rfl T.n_len (by decide +kernel) (pa_cons (pv 1) pa_nil)) pa_nil))) (fun _ _ => rfl)))), ?_⟩
  try dsimp only [cxOf, Cx.nox]
  repeat' walk_at "st"
  obtain ⟨v, e1, e2⟩ := at_i (n := dn) n0 n1
  exact q_ixL (sql (ke.out _ _ hn ha)) e2 (q _ v Hn e1 ke so)
theorem c_pick {st c a : Addr} {xs : List V} {H : Hp} {Q : VK} {E : XK} (h1 : StOk st c H) (h2 : H a = some (.lst xs)) (h3 : a ∉ [st, c]) (h4 : 0 < xs.length ∧ xs.length < 1000000) (q : ∀ (i : Nat) (v : V) (H' : Hp), xs[i]? = some v → Kp [st, c] H H' → StOk st c H' → Q v H') :
    sp_pick K [.ref st, .ref a] H Q E := ⟨st, c, a, xs, rfl, h1, h2, h3, h4.1, h4.2, q⟩
set_option hygiene false in
local macro_rules | `(tactic| walk_at "i_c_pick") => `(tactic| intro j v Hn ej ke so)
local macro_rules | `(tactic| walk_at "own") => `(tactic| (refine c_pick (c := ?c) (xs := ?xs) ?a ?b ?e ?d ?_; (case b => walk_at "lift"); (case a => walk_at "st_ok"); (case e => walk_at "nin"); (case d => walk_at "arx2"); walk_at "i_c_pick"))
abbrev s_Home___init__ : Stmt := inClass (topS 1) 0
theorem sc_Home___init__ : FnScope ["self", "kind", "inputs"] ["self", "kind", "inputs"] (defScope s_Home___init__) := ⟨rfl, rfl, rfl, by decide +kernel, rfl, by decide +kernel, by decide +kernel⟩
abbrev p_Home___init__ : List Str := ["self", "kind", "inputs"]
abbrev s_Home_offer_next : Stmt := inClass (topS 1) 1
theorem sc_Home_offer_next : FnScope ["self"] ["self"] (defScope s_Home_offer_next) := ⟨rfl, rfl, rfl, by decide +kernel, rfl, by decide +kernel, by decide +kernel⟩
abbrev p_Home_offer_next : List Str := ["self"]
abbrev s_Homes___init__ : Stmt := inClass (topS 2) 0
theorem sc_Homes___init__ : FnScope ["self", "rows", "log"] ["self", "rows", "log"] (defScope s_Homes___init__) := ⟨rfl, rfl, rfl, by decide +kernel, rfl, by decide +kernel, by decide +kernel⟩
abbrev p_Homes___init__ : List Str := ["self", "rows", "log"]
abbrev s_Homes_handle : Stmt := inClass (topS 2) 1
theorem sc_Homes_handle : FnScope ["self", "message", "home", "action"] ["self", "message"] (defScope s_Homes_handle) := ⟨rfl, rfl, rfl, by decide +kernel, rfl, by decide +kernel, by decide +kernel⟩
abbrev p_Homes_handle : List Str := ["self", "message"]
abbrev s_offer : Stmt := topS 3
theorem sc_offer : FnScope ["home", "message", "log", "_", "c", "word", "giver"] ["home", "message", "log"] (defScope s_offer) := ⟨rfl, rfl, rfl, by decide +kernel, rfl, by decide +kernel, by decide +kernel⟩
abbrev p_offer : List Str := ["home", "message", "log"]
abbrev s_ask : Stmt := topS 4
theorem sc_ask : FnScope ["home", "message", "log", "_", "c", "asker"] ["home", "message", "log"] (defScope s_ask) := ⟨rfl, rfl, rfl, by decide +kernel, rfl, by decide +kernel, by decide +kernel⟩
abbrev p_ask : List Str := ["home", "message", "log"]
abbrev s_offered : Stmt := topS 5
theorem sc_offered : FnScope ["home", "c"] ["home", "c"] (defScope s_offered) := ⟨rfl, rfl, rfl, by decide +kernel, rfl, by decide +kernel, by decide +kernel⟩
abbrev p_offered : List Str := ["home", "c"]
abbrev s_accept : Stmt := topS 6
theorem sc_accept : FnScope ["home", "message", "log", "_", "c", "asker", "word", "giver", "answers"] ["home", "message", "log"] (defScope s_accept) := ⟨rfl, rfl, rfl, by decide +kernel, rfl, by decide +kernel, by decide +kernel⟩
abbrev p_accept : List Str := ["home", "message", "log"]
abbrev s_cancel : Stmt := topS 7
theorem sc_cancel : FnScope ["home", "message", "log", "_", "c", "asker"] ["home", "message", "log"] (defScope s_cancel) := ⟨rfl, rfl, rfl, by decide +kernel, rfl, by decide +kernel, by decide +kernel⟩
abbrev p_cancel : List Str := ["home", "message", "log"]
abbrev s__law_message : Stmt := topS 13
theorem sc__law_message : FnScope ["state", "channel", "kind", "m", "offered_v", "asker", "ready", "menu"] ["state", "channel", "kind", "m"] (defScope s__law_message) := ⟨rfl, rfl, rfl, by decide +kernel, rfl, by decide +kernel, by decide +kernel⟩
abbrev p__law_message : List Str := ["state", "channel", "kind", "m"]
abbrev s__law_due : Stmt := topS 14
theorem sc__law_due : FnScope ["kind", "m", "message", "log", "outputs", "name", "channel", "asker", "word", "giver", "ready"] ["kind", "m", "message", "log", "outputs"] (defScope s__law_due) := ⟨rfl, rfl, rfl, by decide +kernel, rfl, by decide +kernel, by decide +kernel⟩
abbrev p__law_due : List Str := ["kind", "m", "message", "log", "outputs"]
abbrev s_law : Stmt := topS 15
theorem sc_law : FnScope ["script", "state", "kinds", "inputs", "rows", "channel", "events", "homes", "models", "outputs", "log", "k", "message", "due", "told", "kind"] ["script"] (defScope s_law) := ⟨rfl, rfl, rfl, by decide +kernel, rfl, by decide +kernel, by decide +kernel⟩
abbrev p_law : List Str := ["script"]
def rKd (K : PySem.W.Frag) (w : World) : R2 := rIxD K w
theorem ix_kdA {X : Cx} : IxR X (rKd X.K X.w) := ix_kdict
theorem q_kd {K : PySem.W.Frag} {w : World} {H : Hp} {Q : VK} {p : Addr} {z : Str} {v : V} (h : KDct K w p z v) (q : Q v H) : rKd K w (.ref p) (.str z) H Q := ⟨p, z, v, rfl, rfl, h, q⟩
theorem pe_globR {X : Cx} {x : Str} {a : Addr} {pos : Pos} (hg : Gl X x) (hm : X.mg x = some (.ref a)) (hd : (x == ("__debug__" : Str)) = false := by decide) : PE X (.Name x pos) (tC (.ref a)) := pe_glob hg hm rfl hd
/-! ### a channel as data -/
inductive Kd | inn | out | mid
  deriving DecidableEq
def Kd.s : Kd → Str
  | .inn => "in"
  | .out => "out"
  | .mid => "inner"
structure Ch where
  kd : Kd
  off : Option (Int × Int)
  ask : Option Int
  left : List Int
  outs : List Int
structure Ch.Ok (d : Ch) : Prop where
  inn : d.kd = .inn → d.off = none
  nin : d.kd ≠ .inn → d.left = []
  out : d.kd = .out → d.off = none ∧ d.ask = none
inductive Msg | offer (x g : Int) | ask (a : Int) | cancel (a : Int) | accept (a : Int)
def Msg.nm : Msg → Str
  | .offer _ _ => "offer"
  | .ask _ => "ask"
  | .cancel _ => "cancel"
  | .accept _ => "accept"
def Msg.vals (c : Int) : Msg → List V
  | .offer x g => [.str "offer", .int c, .int x, .int g]
  | .ask a => [.str "ask", .int c, .int a]
  | .cancel a => [.str "cancel", .int c, .int a]
  | .accept a => [.str "accept", .int c, .int a]
def Msg.ok (d : Ch) : Msg → Prop
  | .offer _ _ => d.kd = .out ∨ (d.kd = .mid ∧ d.off = none)
  | .ask _ => d.kd ≠ .out ∧ d.ask = none
  | .cancel a => d.kd ≠ .out ∧ d.ask = some a
  | .accept a => d.kd ≠ .out ∧ d.ask = some a ∧ (d.off ≠ none ∨ (d.kd = .inn ∧ d.left ≠ []))
def stp (d : Ch) : Msg → Ch
  | .offer x g => match d.kd with
    | .out => { d with outs := d.outs ++ [x] }
    | _ => { d with off := some (x, g) }
  | .ask a => { d with ask := some a }
  | .cancel _ => { d with ask := none }
  | .accept _ => { d with ask := none, off := none, left := d.left.tail }
/-- an answer: who gets it, its name, its numbers -/
abbrev An := Int × Str × List Int
def anD (a : An) : PyData := .tuple [.int a.1, .tuple (.str a.2.1 :: fInts a.2.2)]
def offd (c : Int) (a : Int) : An := (a, "offered", [c, a])
def Ch.word (d : Ch) : Int := match d.off with
  | some (x, _) => x
  | none => d.left.headD 0
def ans (c : Int) (d : Ch) : Msg → List An
  | .offer _ g => match d.kd with
    | .out => [(g, "taken", [g])]
    | _ => match d.ask with
      | some a => [offd c a]
      | none => []
  | .ask a => match d.off, d.left with
    | none, [] => []
    | _, _ => [offd c a]
  | .cancel a => [(a, "cancelled", [c, a])]
  | .accept a => (a, "word", [c, d.word, a]) :: match d.off with
    | some (_, g) => [(g, "taken", [g])]
    | none => []
def evD (p : Int × Int) : PyData := .tuple [.int p.1, .int p.2]
def logd (c : Int) (d : Ch) : Msg → List (Int × Int)
  | .offer x _ => match d.kd with
    | .out => [(c, x)]
    | _ => []
  | .accept _ => [(c, d.word)]
  | _ => []
def aV : Option Int → V
  | none => .non
  | some a => .int a
/-- a home's offer -/
def OfI (H : Hp) : Option (Int × Option Int) → V → Prop
  | none, v => v = .non
  | some (x, g), v => ∃ t, v = .ref t ∧ H t = some (.tup [.int x, aV g])
theorem OfI.kp {M : List Addr} {H H' : Hp} (k : Kp M H H') : ∀ {o : Option (Int × Option Int)} {v : V}, OfI H o v → OfI H' o v
  | none, _, h => h
  | some _, _, ⟨t, h1, h2⟩ => ⟨t, h1, k.tup _ _ h2⟩
def hoff (d : Ch) : Option (Int × Option Int) := match d.off with
  | some (x, g) => some (x, some g)
  | none => d.left.head?.map fun x => (x, none)
structure HmK (K : PySem.W.Frag) (C : Addr) : Prop where
  cl : Cls K C
  nK : NoAttr K C "kind"
  nO : NoAttr K C "outputs"
  nL : NoAttr K C "left"
  nF : NoAttr K C "offer"
  nA : NoAttr K C "asker"
structure HsK (K : PySem.W.Frag) (C : Addr) : Prop where
  cl : Cls K C
  nR : NoAttr K C "rows"
  nG : NoAttr K C "log"
def hfl (kd : Str) (o l : Addr) (ov av : V) : List (Str × V) := [("kind", .str kd), ("outputs", .ref o), ("left", .ref l), ("offer", ov), ("asker", av)]
structure HAt (C : Addr) (H : Hp) (h dx o l : Addr) (d : Ch) : Prop where
  ob : ∃ ov, H h = some (.ins C dx (hfl d.kd.s o l ov (aV d.ask))) ∧ OfI H (hoff d) ov
  os : H o = some (.lst (d.outs.map V.int))
  ls : H l = some (.lst (d.left.tail.map V.int))
theorem HAt.kp {C : Addr} {M : List Addr} {H H' : Hp} {h dx o l : Addr} {d : Ch} (k : Kp M H H') (a : h ∉ M) (b : o ∉ M) (c : l ∉ M) (q : HAt C H h dx o l d) : HAt C H' h dx o l d := by
  obtain ⟨⟨ov, h1, h2⟩, h3, h4⟩ := q
  exact ⟨⟨ov, k.out _ _ a h1, h2.kp k⟩, k.out _ _ b h3, k.out _ _ c h4⟩
local macro_rules | `(tactic| walk_at "ne") => `(tactic| exact fun z => absurd z (by decide +kernel))
variable {C : Addr}
def sp_next (C : Addr) : Sp := fun vs H Q _ => ∃ (h dx o l : Addr) (kd : Str) (ov av : V) (ls : List Int), vs = [.ref h] ∧ H h = some (.ins C dx (hfl kd o l ov av)) ∧ H l = some (.lst (ls.map V.int)) ∧
  ∀ H' ov', Kp [h, l] H H' → H' h = some (.ins C dx (hfl kd o l ov' av)) → H' l = some (.lst (ls.tail.map V.int)) → OfI H' (ls.head?.map fun x => (x, none)) ov' → Q .non H'
theorem c_next {h dx o l : Addr} {kd : Str} {ov av : V} {ls : List Int} {H : Hp} {Q : VK} {E : XK} (h1 : H h = some (.ins C dx (hfl kd o l ov av))) (h2 : H l = some (.lst (ls.map V.int)))
    (q : ∀ H' ov', Kp [h, l] H H' → H' h = some (.ins C dx (hfl kd o l ov' av)) → H' l = some (.lst (ls.tail.map V.int)) → OfI H' (ls.head?.map fun x => (x, none)) ov' → Q .non H') : sp_next C [.ref h] H Q E := ⟨h, dx, o, l, kd, ov, av, ls, rfl, h1, h2, q⟩
theorem ok_next (T : Glo K w mg) (W : HmK K C) (D : DnM K C "offer_next" "Home.offer_next" s_Home_offer_next p_Home_offer_next) : MetC P w K mg base C "offer_next" 1 p_Home_offer_next (sp_next C) := by
  obtain ⟨hc, n1, n2, n3, n4, n5⟩ := W
  refine D.ok sc_Home_offer_next (fun vs H Q E h => ?_) (fun f cdv A outer s H vs Q E hr h => ?_)
  · obtain ⟨_, _, _, _, _, _, _, _, rfl, _⟩ := h
    rfl
  obtain ⟨h, dx, o, l, kd, ov, av, ls, rfl, ho, hl, q⟩ := h
  have hlh : l ≠ h := ne_knd hl ho (by intro z; cases z)
  simp only [hfl] at ho
  refine ⟨_, (pss_one (ps_fld (pv 0) (pe_ifExp (pt_truth (pe_fld (pv 0) rfl) (by intro _; rfl)) (pe_tup (pa_cons (pe_bm PySem.F.plainAttrs_list PySem.F.slot_list_pop PySem.F.type_list_pop mt_popAt (pe_fld (pv 0) rfl) (pa_cons pe_int pa_nil)) (pa_cons pe_non pa_nil))) pe_non) rfl)), ?_⟩
  try dsimp only [cxOf, Cx.nox]
  cases ls with
  | nil =>
    rw [List.map_nil] at hl
    repeat' walk_at "st"
    exact q _ _ (by walk_at "kpx") hu (by walk_at "lift") rfl
  | cons x r =>
    rw [List.map_cons] at hl
    repeat' walk_at "st"
    exact q _ _ (by walk_at "kpx") hu (by walk_at "lift") ⟨p, rfl, by walk_at "lift"⟩
def sp_hinit (C : Addr) : Sp := fun vs H Q _ => ∃ (h dx a : Addr) (kd : Kd) (ls : List Int), vs = [.ref h, .str kd.s, .ref a] ∧ H h = some (.ins C dx []) ∧ H a = some (.lst (ls.map V.int)) ∧ ls.length ≤ 1000 ∧
  ∀ H' o l, H o = none → H l = none → o ≠ l → Kp [h] H H' → HAt C H' h dx o l ⟨kd, none, none, ls, []⟩ → Q .non H'
theorem ok_hinit (T : Glo K w mg) (W : HmK K C) (D : DnI K mg "Home" "Home.__init__" C s_Home___init__ p_Home___init__) (G_Home_offer_next : MetC P w K mg base C "offer_next" 1 p_Home_offer_next (sp_next C)) : MakC P w K mg base "Home" C 2 p_Home___init__ (sp_hinit C) := by
  obtain ⟨hc, n1, n2, n3, n4, n5⟩ := W
  refine D.ok sc_Home___init__ (fun vs H Q E h => ?_) (fun f cdv A outer s H vs Q E hr h => ?_)
  · obtain ⟨_, _, _, _, _, rfl, _⟩ := h
    rfl
  obtain ⟨h, dx, a, kd, ls, rfl, ho, ha, hl, q⟩ := h
  have hah : a ≠ h := ne_knd ha ho (by intro z; cases z)
  refine ⟨_, (pss_cons (ps_fld (pv 0) (pv 1) rfl) (pss_cons (ps_fld (pv 0) (pe_lst pa_nil) rfl) (pss_cons (ps_fld (pv 0) (pe_callTy call_listA rfl T.n_list (by decide +kernel) (pa_cons (pv 2) pa_nil)) rfl) (pss_cons (ps_fld (pv 0) pe_non rfl) (pss_cons (ps_fld (pv 0) pe_non rfl) (pss_one (ps_expr (pe_mtC0 G_Home_offer_next (hr.mono (by walk_at "lev")) (pv 0))))))))), ?_⟩
  try dsimp only [cxOf, Cx.nox]
  repeat' walk_at "st"
  refine c_next hu (by walk_at "lift") (fun H1 ov1 k1 h1 h2 h3 => ?_)
  exact q H1 _ p (by walk_at "frees") (by walk_at "frees") (by walk_at "ne1") (by walk_at "kpx") ⟨⟨_, h1, by cases ls <;> exact h3⟩, by walk_at "lift", h2⟩
/-! ### what a home does -/
variable {C : Addr}
def sp_offered (C : Addr) : Sp := fun vs H Q _ => ∃ (h dx o l : Addr) (d : Ch) (c : Int), vs = [.ref h, .int c] ∧ HAt C H h dx o l d ∧
  ∀ H' p xs, Ex H H' → H p = none → H' p = some (.lst xs) → Tps H' xs ((match hoff d, d.ask with | some _, some a => [offd c a] | _, _ => []).map anD) → Q (.ref p) H'
theorem c_offered {h dx o l : Addr} {d : Ch} {c : Int} {H : Hp} {Q : VK} {E : XK} (h1 : HAt C H h dx o l d)
  (q : ∀ H' p xs, Ex H H' → H p = none → H' p = some (.lst xs) → Tps H' xs ((match hoff d, d.ask with | some _, some a => [offd c a] | _, _ => []).map anD) → Q (.ref p) H') : sp_offered C [.ref h, .int c] H Q E := ⟨h, dx, o, l, d, c, rfl, h1, q⟩
theorem ok_offered (T : Glo K w mg) (W : HmK K C) (D : Dn K mg "offered" s_offered p_offered) : Cal P w K mg base "offered" 1 p_offered (sp_offered C) := by
  obtain ⟨hc, n1, n2, n3, n4, n5⟩ := W
  refine D.ok sc_offered (fun vs H Q E h => ?_) (fun f cdv A outer s H vs Q E hr h => ?_)
  · obtain ⟨_, _, _, _, _, _, rfl, _⟩ := h
    rfl
  obtain ⟨h, dx, o, l, d, c, rfl, ⟨⟨ov, ho, hof⟩, hos, hls⟩, q⟩ := h
  simp only [hfl] at ho
  refine ⟨_, (pss_cons (ps_if (PW.pt (pw_or (pt_cmpR op_isN1 (pe_fld (pv 0) rfl) pe_non (nomark _)) (pw_or1 (pt_cmpR op_isN1 (pe_fld (pv 0) rfl) pe_non (nomark _))))) (pss_one (ps_ret (pe_lst pa_nil))) pss_nil) (pss_one (ps_ret (pe_lst (pa_cons (pe_tup (pa_cons (pe_fld (pv 0) rfl) (pa_cons (pe_tup (pa_cons pe_str (pa_cons (pv 1) (pa_cons (pe_fld (pv 0) rfl) pa_nil)))) pa_nil))) pa_nil))))), ?_⟩
  try dsimp only [cxOf, Cx.nox]
  cases hh : hoff d with
  | none =>
    rw [hh] at hof q
    cases (hof : ov = .non)
    repeat' walk_at "st"
    exact q _ _ _ ke hp hn Tps.nil
  | some xg =>
    rw [hh] at hof q
    obtain ⟨x, g⟩ := xg
    obtain ⟨t, rfl, ht⟩ := hof
    cases ha : d.ask with
    | none =>
      rw [ha] at ho q
      simp only [aV] at ho
      repeat' walk_at "st"
      exact q _ _ _ ke hp hn Tps.nil
    | some a =>
      rw [ha] at ho q
      simp only [aV] at ho
      repeat' walk_at "st"
      exact q _ _ _ (by walk_at "exx") (by walk_at "frees") hn (by walk_at "tps")
/-- what an action gets and does -/
def sp_act (C : Addr) (nm : Str) : Sp := fun vs H Q _ => ∃ (h t g dx o l : Addr) (d : Ch) (c : Int) (m : Msg) (es : List V),
  vs = [.ref h, .ref t, .ref g] ∧ m.nm = nm ∧ m.ok d ∧ d.Ok ∧ H t = some (.tup (m.vals c)) ∧ HAt C H h dx o l d ∧ H g = some (.lst es) ∧ o ≠ l ∧ g ≠ o ∧ g ≠ l ∧ es.length < 90000 ∧ d.outs.length < 90000 ∧
  ∀ H' p xs es', Kp [h, o, l, g] H H' → H p = none → H' p = some (.lst xs) → Tps H' xs ((ans c d m).map anD) → HAt C H' h dx o l (stp d m) → H' g = some (.lst (es ++ es')) → Tps H' es' ((logd c d m).map evD) → Q (.ref p) H'
theorem c_act {nm : Str} {h t g dx o l : Addr} {d : Ch} {c : Int} {m : Msg} {es : List V} {H : Hp} {Q : VK} {E : XK} (h1 : m.nm = nm) (h2 : m.ok d) (h3 : d.Ok) (h4 : H t = some (.tup (m.vals c))) (h5 : HAt C H h dx o l d) (h6 : H g = some (.lst es)) (h7 : o ≠ l) (h8 : g ≠ o) (h9 : g ≠ l) (h10 : es.length < 90000) (h11 : d.outs.length < 90000)
  (q : ∀ H' p xs es', Kp [h, o, l, g] H H' → H p = none → H' p = some (.lst xs) → Tps H' xs ((ans c d m).map anD) → HAt C H' h dx o l (stp d m) → H' g = some (.lst (es ++ es')) → Tps H' es' ((logd c d m).map evD) → Q (.ref p) H') : sp_act C nm [.ref h, .ref t, .ref g] H Q E := ⟨h, t, g, dx, o, l, d, c, m, es, rfl, h1, h2, h3, h4, h5, h6, h7, h8, h9, h10, h11, q⟩
theorem sp_act_len {nm : Str} {vs : List V} {H : Hp} {Q : VK} {E : XK} (h : sp_act C nm vs H Q E) : vs.length = 3 := by
  obtain ⟨_, _, _, _, _, _, _, _, _, _, rfl, _⟩ := h
  rfl
theorem ok_offer (T : Glo K w mg) (W : HmK K C) (D : Dn K mg "offer" s_offer p_offer) (G_offered : Cal P w K mg base "offered" 1 p_offered (sp_offered C)) : Cal P w K mg base "offer" 2 p_offer (sp_act C "offer") := by
  obtain ⟨hc, n1, n2, n3, n4, n5⟩ := W
  refine D.ok sc_offer (fun vs H Q E h => sp_act_len h) (fun f cdv A outer s H vs Q E hr h => ?_)
  obtain ⟨h, t, g, dx, o, l, d, c, m, es, rfl, hm, mok, dok, ht, ⟨⟨ov, ho, hof⟩, hos, hls⟩, hg, nol, ngo, ngl, ze, zo, q⟩ := h
  have noh : o ≠ h := ne_knd hos ho (by intro z; cases z)
  have nlh : l ≠ h := ne_knd hls ho (by intro z; cases z)
  have ngh : g ≠ h := ne_knd hg ho (by intro z; cases z)
  have nto : t ≠ o := ne_knd ht hos (by intro z; cases z)
  cases m with
  | offer x y =>
    refine ⟨_, (pss_cons (ps_asg (pv 1) (pg_tup rfl (pgs_cons (pg_name (i := 3) sc_offer.nd rfl (by first | exact Or.inl rfl | exact Or.inr rfl)) (pgs_cons (pg_name (i := 4) sc_offer.nd rfl (by first | exact Or.inl rfl | exact Or.inr rfl)) (pgs_cons (pg_name (i := 5) sc_offer.nd rfl (by first | exact Or.inl rfl | exact Or.inr rfl)) (pgs_cons (pg_name (i := 6) sc_offer.nd rfl (by first | exact Or.inl rfl | exact Or.inr rfl)) pgs_nil)))))) (pss_cons (ps_if (pt_cmpR (op_eqA (hu64 hr)) (pe_fld (pv 0) rfl) pe_str (nomark _)) (pss_cons (ps_expr (pe_bm PySem.F.plainAttrs_list PySem.F.slot_list_append PySem.F.type_list_append mt_append (pe_fld (pv 0) rfl) (pa_cons (pv 5) pa_nil))) (pss_cons (ps_expr (pe_bm PySem.F.plainAttrs_list PySem.F.slot_list_append PySem.F.type_list_append mt_append (pv 2) (pa_cons (pe_tup (pa_cons (pv 4) (pa_cons (pv 5) pa_nil))) pa_nil))) (pss_one (ps_ret (pe_lst (pa_cons (pe_tup (pa_cons (pv 6) (pa_cons (pe_tup (pa_cons pe_str (pa_cons (pv 6) pa_nil))) pa_nil))) pa_nil)))))) pss_nil) (pss_cons (ps_fld (pv 0) (pe_tup (pa_cons (pv 5) (pa_cons (pv 6) pa_nil))) rfl) (pss_one (ps_ret (pe_cal G_offered (hr.mono (by walk_at "lev")) rfl (pa_cons (pv 0) (pa_cons (pv 4) pa_nil)))))))), ?_⟩
    try dsimp only [cxOf, Cx.nox]
    obtain ⟨kd, off, ask, left, outs⟩ := d
    simp only [hfl, Msg.vals] at ho ht
    dsimp only at hos hls zo
    cases kd with
    | out =>
      simp only [Kd.s] at ho
      obtain ⟨rfl, rfl⟩ := dok.out rfl
      have : left = [] := dok.nin (by intro z; cases z)
      subst this
      repeat' walk_at "st"
      refine q _ _ _ [.ref _] (by walk_at "kpx") (by walk_at "frees") hn (by walk_at "tps") ⟨⟨_, (by walk_at "lift"), hof.kp (M := [h, o, l, g]) (by walk_at "kpx")⟩, ?_, (by walk_at "lift")⟩ (by walk_at "lift") (by walk_at "tps")
      show Hn o = some (.lst ((outs ++ [x]).map V.int))
      rw [List.map_append]
      walk_at "lift"
    | inn => exact absurd mok (by simp [Msg.ok])
    | mid =>
      simp only [Kd.s] at ho
      have : left = [] := dok.nin (by intro z; cases z)
      subst this
      repeat' walk_at "st"
      refine c_offered (o := o) (l := l) (d := ⟨.mid, some (x, y), ask, [], outs⟩) ⟨⟨_, hu, _, rfl, by walk_at "lift"⟩, by walk_at "lift", by walk_at "lift"⟩ (fun H1 p1 xs1 e1 hp1 h1 t1 => ?_)
      refine q H1 p1 xs1 [] (by walk_at "kpx") (by walk_at "frees") h1 ?_ ⟨⟨_, e1 _ _ hu, _, rfl, by walk_at "lift"⟩, by walk_at "lift", by walk_at "lift"⟩ (by rw [List.append_nil]; walk_at "lift") .nil
      cases ask with
      | none => exact t1
      | some a => exact t1
  | ask a => cases hm
  | cancel a => cases hm
  | accept a => cases hm
theorem ok_ask (T : Glo K w mg) (W : HmK K C) (D : Dn K mg "ask" s_ask p_ask) (G_offered : Cal P w K mg base "offered" 1 p_offered (sp_offered C)) : Cal P w K mg base "ask" 2 p_ask (sp_act C "ask") := by
  obtain ⟨hc, n1, n2, n3, n4, n5⟩ := W
  refine D.ok sc_ask (fun vs H Q E h => sp_act_len h) (fun f cdv A outer s H vs Q E hr h => ?_)
  obtain ⟨h, t, g, dx, o, l, d, c, m, es, rfl, hm, mok, dok, ht, ⟨⟨ov, ho, hof⟩, hos, hls⟩, hg, nol, ngo, ngl, ze, zo, q⟩ := h
  have noh : o ≠ h := ne_knd hos ho (by intro z; cases z)
  have nlh : l ≠ h := ne_knd hls ho (by intro z; cases z)
  have ngh : g ≠ h := ne_knd hg ho (by intro z; cases z)
  cases m with
  | ask a =>
    refine ⟨_, (pss_cons (ps_asg (pv 1) (pg_tup rfl (pgs_cons (pg_name (i := 3) sc_ask.nd rfl (by first | exact Or.inl rfl | exact Or.inr rfl)) (pgs_cons (pg_name (i := 4) sc_ask.nd rfl (by first | exact Or.inl rfl | exact Or.inr rfl)) (pgs_cons (pg_name (i := 5) sc_ask.nd rfl (by first | exact Or.inl rfl | exact Or.inr rfl)) pgs_nil))))) (pss_cons (ps_fld (pv 0) (pv 5) rfl) (pss_one (ps_ret (pe_cal G_offered (hr.mono (by walk_at "lev")) rfl (pa_cons (pv 0) (pa_cons (pv 4) pa_nil))))))), ?_⟩
    try dsimp only [cxOf, Cx.nox]
    obtain ⟨kd, off, ak, left, outs⟩ := d
    simp only [hfl, Msg.vals] at ho ht
    dsimp only at hos hls zo
    repeat' walk_at "st"
    refine c_offered (o := o) (l := l) (d := ⟨kd, off, some a, left, outs⟩) ⟨⟨_, hu, hof.kp ku⟩, by walk_at "lift", by walk_at "lift"⟩ (fun H1 p1 xs1 e1 hp1 h1 t1 => ?_)
    refine q H1 p1 xs1 [] (by walk_at "kpx") (by walk_at "frees") h1 ?_ ⟨⟨_, e1 _ _ hu, hof.kp (M := [h, o, l, g]) (by walk_at "kpx")⟩, by walk_at "lift", by walk_at "lift"⟩ (by rw [List.append_nil]; walk_at "lift") .nil
    cases off with
    | some x => exact t1
    | none =>
      cases left with
      | nil => exact t1
      | cons x r => exact t1
  | offer x y => cases hm
  | cancel a => cases hm
  | accept a => cases hm
theorem ok_cancel (T : Glo K w mg) (W : HmK K C) (D : Dn K mg "cancel" s_cancel p_cancel) : Cal P w K mg base "cancel" 2 p_cancel (sp_act C "cancel") := by
  obtain ⟨hc, n1, n2, n3, n4, n5⟩ := W
  refine D.ok sc_cancel (fun vs H Q E h => sp_act_len h) (fun f cdv A outer s H vs Q E hr h => ?_)
  obtain ⟨h, t, g, dx, o, l, d, c, m, es, rfl, hm, mok, dok, ht, ⟨⟨ov, ho, hof⟩, hos, hls⟩, hg, nol, ngo, ngl, ze, zo, q⟩ := h
  have noh : o ≠ h := ne_knd hos ho (by intro z; cases z)
  have nlh : l ≠ h := ne_knd hls ho (by intro z; cases z)
  have ngh : g ≠ h := ne_knd hg ho (by intro z; cases z)
  cases m with
  | cancel a =>
    refine ⟨_, (pss_cons (ps_asg (pv 1) (pg_tup rfl (pgs_cons (pg_name (i := 3) sc_cancel.nd rfl (by first | exact Or.inl rfl | exact Or.inr rfl)) (pgs_cons (pg_name (i := 4) sc_cancel.nd rfl (by first | exact Or.inl rfl | exact Or.inr rfl)) (pgs_cons (pg_name (i := 5) sc_cancel.nd rfl (by first | exact Or.inl rfl | exact Or.inr rfl)) pgs_nil))))) (pss_cons (ps_fld (pv 0) pe_non rfl) (pss_one (ps_ret (pe_lst (pa_cons (pe_tup (pa_cons (pv 5) (pa_cons (pe_tup (pa_cons pe_str (pa_cons (pv 4) (pa_cons (pv 5) pa_nil)))) pa_nil))) pa_nil)))))), ?_⟩
    try dsimp only [cxOf, Cx.nox]
    obtain ⟨kd, off, ak, left, outs⟩ := d
    simp only [hfl, Msg.vals] at ho ht
    dsimp only at hos hls zo
    repeat' walk_at "st"
    refine q _ _ _ [] (by walk_at "kpx") (by walk_at "frees") hn (by walk_at "tps") ⟨⟨_, (by walk_at "lift"), hof.kp (M := [h, o, l, g]) (by walk_at "kpx")⟩, by walk_at "lift", by walk_at "lift"⟩ (by rw [List.append_nil]; walk_at "lift") .nil
  | offer x y => cases hm
  | ask a => cases hm
  | accept a => cases hm
theorem ok_accept (T : Glo K w mg) (W : HmK K C) (D : Dn K mg "accept" s_accept p_accept) (G_Home_offer_next : MetC P w K mg base C "offer_next" 1 p_Home_offer_next (sp_next C)) : Cal P w K mg base "accept" 2 p_accept (sp_act C "accept") := by
  obtain ⟨hc, n1, n2, n3, n4, n5⟩ := W
  refine D.ok sc_accept (fun vs H Q E h => sp_act_len h) (fun f cdv A outer s H vs Q E hr h => ?_)
  obtain ⟨h, t, g, dx, o, l, d, c, m, es, rfl, hm, mok, dok, ht, ⟨⟨ov, ho, hof⟩, hos, hls⟩, hg, nol, ngo, ngl, ze, zo, q⟩ := h
  have noh : o ≠ h := ne_knd hos ho (by intro z; cases z)
  have nlh : l ≠ h := ne_knd hls ho (by intro z; cases z)
  have ngh : g ≠ h := ne_knd hg ho (by intro z; cases z)
  cases m with
  | accept a =>
    refine ⟨_, (pss_cons (ps_asg (pv 1) (pg_tup rfl (pgs_cons (pg_name (i := 3) sc_accept.nd rfl (by first | exact Or.inl rfl | exact Or.inr rfl)) (pgs_cons (pg_name (i := 4) sc_accept.nd rfl (by first | exact Or.inl rfl | exact Or.inr rfl)) (pgs_cons (pg_name (i := 5) sc_accept.nd rfl (by first | exact Or.inl rfl | exact Or.inr rfl)) pgs_nil))))) (pss_cons (ps_if (pt_cmpR op_isN1 (pe_fld (pv 0) rfl) pe_non (nomark _)) (pss_one (ps_ret (pe_lst pa_nil))) pss_nil) (pss_cons (ps_asg (pe_fld (pv 0) rfl) (pg_tup rfl (pgs_cons (pg_name (i := 6) sc_accept.nd rfl (by first | exact Or.inl rfl | exact Or.inr rfl)) (pgs_cons (pg_name (i := 7) sc_accept.nd rfl (by first | exact Or.inl rfl | exact Or.inr rfl)) pgs_nil)))) (pss_cons (ps_expr (pe_bm PySem.F.plainAttrs_list PySem.F.slot_list_append PySem.F.type_list_append mt_append (pv 2) (pa_cons (pe_tup (pa_cons (pv 4) (pa_cons (pv 6) pa_nil))) pa_nil))) (pss_cons (ps_fld (pv 0) pe_non rfl) (pss_cons (ps_expr (pe_mtC0 G_Home_offer_next (hr.mono (by walk_at "lev")) (pv 0))) (pss_cons (ps_set (i := 8) sc_accept.nd rfl (by first | exact Or.inl rfl | exact Or.inr rfl) (pe_lst (pa_cons (pe_tup (pa_cons (pv 5) (pa_cons (pe_tup (pa_cons pe_str (pa_cons (pv 4) (pa_cons (pv 6) (pa_cons (pv 5) pa_nil))))) pa_nil))) pa_nil))) (pss_cons (ps_if (pt_cmpR op_notN1 (pv 7) pe_non (nomark _)) (pss_one (ps_expr (pe_bm PySem.F.plainAttrs_list PySem.F.slot_list_append PySem.F.type_list_append mt_append (pv 8) (pa_cons (pe_tup (pa_cons (pv 7) (pa_cons (pe_tup (pa_cons pe_str (pa_cons (pv 7) pa_nil))) pa_nil))) pa_nil)))) pss_nil) (pss_one (ps_ret (pv 8))))))))))), ?_⟩
    try dsimp only [cxOf, Cx.nox]
    obtain ⟨kd, off, ak, left, outs⟩ := d
    simp only [hfl, Msg.vals] at ho ht
    dsimp only at hos hls zo
    obtain ⟨m1, m2, m3⟩ := mok
    dsimp only at m1 m2 m3
    subst m2
    cases off with
    | some xy =>
      obtain ⟨x, y⟩ := xy
      have ki : kd ≠ .inn := fun z => by cases (dok.inn z)
      have : left = [] := dok.nin ki
      subst this
      obtain ⟨tv, rfl, htv⟩ := hof
      simp only [aV] at htv ho
      repeat' walk_at "st"
      refine c_next (ls := []) hu (by walk_at "lift") (fun H1 ov1 k1 h1 h2 h3 => ?_)
      repeat' walk_at "st"
      refine q _ _ _ [.ref _] (by walk_at "kpx") (by walk_at "frees") hu (by walk_at "tps") ⟨⟨_, (by walk_at "lift"), h3.kp (M := [h, o, l, g]) (by walk_at "kpx")⟩, by walk_at "lift", by walk_at "lift"⟩ (by walk_at "lift") (by walk_at "tps")
    | none =>
      have m4 := m3.resolve_left (fun z => z rfl)
      obtain ⟨rfl, m5⟩ := m4
      cases left with
      | nil => exact absurd rfl m5
      | cons x r =>
        obtain ⟨tv, rfl, htv⟩ := hof
        simp only [aV] at htv ho
        repeat' walk_at "st"
        refine c_next (ls := r) hu (by walk_at "lift") (fun H1 ov1 k1 h1 h2 h3 => ?_)
        repeat' walk_at "st"

        refine q _ _ _ [.ref _] (by walk_at "kpx") (by walk_at "frees") (by walk_at "lift") (by walk_at "tps") ⟨⟨_, (by walk_at "lift"), ?_⟩, by walk_at "lift", by walk_at "lift"⟩ (by walk_at "lift") (by walk_at "tps")
        cases r <;> exact h3.kp (M := [h, o, l, g]) (by walk_at "kpx")
  | offer x y => cases hm
  | ask a => cases hm
  | cancel a => cases hm
/-! ### the homes -/
variable {C CS : Addr}
def tabAt (K : PySem.W.Frag) (w : World) (mg : Str → Option Value) (x : Str) : Prop := ∃ a f, mg "MESSAGES" = some (.ref a) ∧ KDct K w a x (.ref f) ∧ mg x = some (.ref f)
def Msgs (K : PySem.W.Frag) (w : World) (mg : Str → Option Value) : Prop := tabAt K w mg "offer" ∧ tabAt K w mg "ask" ∧ tabAt K w mg "accept" ∧ tabAt K w mg "cancel"
abbrev hsfl (r g : Addr) : List (Str × V) := [("rows", .ref r), ("log", .ref g)]
def sp_hsinit (CS : Addr) : Sp := fun vs H Q _ => ∃ (h dx r g : Addr), vs = [.ref h, .ref r, .ref g] ∧ H h = some (.ins CS dx []) ∧ ∀ H', Kp [h] H H' → H' h = some (.ins CS dx [("rows", .ref r), ("log", .ref g)]) → Q .non H'
theorem ok_hsinit (T : Glo K w mg) (W : HsK K CS) (D : DnI K mg "Homes" "Homes.__init__" CS s_Homes___init__ p_Homes___init__) : MakC P w K mg base "Homes" CS 1 p_Homes___init__ (sp_hsinit CS) := by
  obtain ⟨hc, n1, n2⟩ := W
  refine D.ok sc_Homes___init__ (fun vs H Q E h => ?_) (fun f cdv A outer s H vs Q E hr h => ?_)
  · obtain ⟨_, _, _, _, rfl, _⟩ := h
    rfl
  obtain ⟨h, dx, r, g, rfl, ho, q⟩ := h
  refine ⟨_, (pss_cons (ps_fld (pv 0) (pv 1) rfl) (pss_one (ps_fld (pv 0) (pv 2) rfl))), ?_⟩
  try dsimp only [cxOf, Cx.nox]
  repeat' walk_at "st"
  exact q _ (by walk_at "kpx") hu
def sp_handle (C CS : Addr) : Sp := fun vs H Q _ => ∃ (hs dxs r h t g dx o l : Addr) (d : Ch) (c : Int) (m : Msg) (es : List V) (kvs : List (Key × V)),
  vs = [.ref hs, .ref t] ∧ H hs = some (.ins CS dxs [("rows", .ref r), ("log", .ref g)]) ∧ H r = some (.dK kvs) ∧ valV kvs (Sum.inl c) = some (.ref h) ∧ m.ok d ∧ d.Ok ∧ H t = some (.tup (m.vals c)) ∧ HAt C H h dx o l d ∧ H g = some (.lst es) ∧ o ≠ l ∧ g ≠ o ∧ g ≠ l ∧ es.length < 90000 ∧ d.outs.length < 90000 ∧
  ∀ H' p xs es', Kp [h, o, l, g] H H' → H p = none → H' p = some (.lst xs) → Tps H' xs ((ans c d m).map anD) → HAt C H' h dx o l (stp d m) → H' g = some (.lst (es ++ es')) → Tps H' es' ((logd c d m).map evD) → Q (.ref p) H'
theorem c_handle {hs dxs r h t g dx o l : Addr} {d : Ch} {c : Int} {m : Msg} {es : List V} {kvs : List (Key × V)} {H : Hp} {Q : VK} {E : XK} (h1 : H hs = some (.ins CS dxs [("rows", .ref r), ("log", .ref g)])) (h2 : H r = some (.dK kvs)) (h3 : valV kvs (Sum.inl c) = some (.ref h)) (h4 : m.ok d) (h5 : d.Ok) (h6 : H t = some (.tup (m.vals c))) (h7 : HAt C H h dx o l d) (h8 : H g = some (.lst es))
  (h9 : o ≠ l) (h10 : g ≠ o) (h11 : g ≠ l) (h12 : es.length < 90000) (h13 : d.outs.length < 90000)
  (q : ∀ H' p xs es', Kp [h, o, l, g] H H' → H p = none → H' p = some (.lst xs) → Tps H' xs ((ans c d m).map anD) → HAt C H' h dx o l (stp d m) → H' g = some (.lst (es ++ es')) → Tps H' es' ((logd c d m).map evD) → Q (.ref p) H') : sp_handle C CS [.ref hs, .ref t] H Q E :=
  ⟨hs, dxs, r, h, t, g, dx, o, l, d, c, m, es, kvs, rfl, h1, h2, h3, h4, h5, h6, h7, h8, h9, h10, h11, h12, h13, q⟩
theorem ok_handle (T : Glo K w mg) (W : HsK K CS) (FD : Msgs K w mg) (D : DnM K CS "handle" "Homes.handle" s_Homes_handle p_Homes_handle) (G1 : Cal P w K mg base "offer" 2 p_offer (sp_act C "offer")) (G2 : Cal P w K mg base "ask" 2 p_ask (sp_act C "ask")) (G3 : Cal P w K mg base "accept" 2 p_accept (sp_act C "accept"))
    (G4 : Cal P w K mg base "cancel" 2 p_cancel (sp_act C "cancel")) : MetC P w K mg base CS "handle" 3 p_Homes_handle (sp_handle C CS) := by
  obtain ⟨hc, n1, n2⟩ := W
  refine D.ok sc_Homes_handle (fun vs H Q E h => ?_) (fun f cdv A outer s H vs Q E hr h => ?_)
  · obtain ⟨_, _, _, _, _, _, _, _, _, _, _, _, _, _, rfl, _⟩ := h
    rfl
  obtain ⟨hs, dxs, r, h, t, g, dx, o, l, d, c, m, es, kvs, rfl, hhs, hr2, hv, h4, h5, h6, h7, h8, h9, h10, h11, h12, h13, q⟩ := h
  obtain ⟨t1, t2, t3, t4⟩ := FD
  cases m with
  | offer x y =>
    obtain ⟨fa, fd, F_act, m_act, K_act, B_act⟩ := G1
    obtain ⟨aD, fD, g_MESSAGES, kD, mD⟩ := t1
    have efs : fD = fa := by
      rw [mD] at m_act
      cases m_act
      rfl
    subst efs
    refine ⟨_, (pss_cons (ps_set (i := 2) sc_Homes_handle.nd rfl (by first | exact Or.inl rfl | exact Or.inr rfl) (pe_dget (hu_of hr) (pe_fld (pv 0) rfl) (pe_ix ix_seq (pv 1) pe_int (fun _ _ => rfl)) (fun _ _ => rfl))) (pss_cons (ps_set (i := 3) sc_Homes_handle.nd rfl (by first | exact Or.inl rfl | exact Or.inr rfl) (pe_ix ix_kdA (pe_globR rfl g_MESSAGES) (pe_ix ix_seq (pv 1) pe_int (fun _ _ => rfl)) (fun _ _ => rfl))) (pss_one (ps_ret (pe_callL F_act (hr.mono (by walk_at "lev")) (i := 3) rfl (.inl rfl) K_act B_act .nil pass0 (pa_cons (pv 2) (pa_cons (pv 1) (pa_cons (pe_fld (pv 0) rfl) pa_nil)))))))), ?_⟩
    try dsimp only [cxOf, Cx.nox]
    have h6' := h6
    simp only [Msg.vals] at h6
    repeat' walk_at "st"
    refine q_dgetI hr2 hv ?_
    repeat' walk_at "st"
    refine q_kd kD ?_
    repeat' walk_at "st"
    refine ⟨rfl, ?_⟩
    repeat' walk_at "st"
    exact c_act rfl h4 h5 h6' h7 h8 h9 h10 h11 h12 h13 q
  | ask x =>
    obtain ⟨fa, fd, F_act, m_act, K_act, B_act⟩ := G2
    obtain ⟨aD, fD, g_MESSAGES, kD, mD⟩ := t2
    have efs : fD = fa := by
      rw [mD] at m_act
      cases m_act
      rfl
    subst efs
    refine ⟨_, (pss_cons (ps_set (i := 2) sc_Homes_handle.nd rfl (by first | exact Or.inl rfl | exact Or.inr rfl) (pe_dget (hu_of hr) (pe_fld (pv 0) rfl) (pe_ix ix_seq (pv 1) pe_int (fun _ _ => rfl)) (fun _ _ => rfl))) (pss_cons (ps_set (i := 3) sc_Homes_handle.nd rfl (by first | exact Or.inl rfl | exact Or.inr rfl) (pe_ix ix_kdA (pe_globR rfl g_MESSAGES) (pe_ix ix_seq (pv 1) pe_int (fun _ _ => rfl)) (fun _ _ => rfl))) (pss_one (ps_ret (pe_callL F_act (hr.mono (by walk_at "lev")) (i := 3) rfl (.inl rfl) K_act B_act .nil pass0 (pa_cons (pv 2) (pa_cons (pv 1) (pa_cons (pe_fld (pv 0) rfl) pa_nil)))))))), ?_⟩
    try dsimp only [cxOf, Cx.nox]
    have h6' := h6
    simp only [Msg.vals] at h6
    repeat' walk_at "st"
    refine q_dgetI hr2 hv ?_
    repeat' walk_at "st"
    refine q_kd kD ?_
    repeat' walk_at "st"
    refine ⟨rfl, ?_⟩
    repeat' walk_at "st"
    exact c_act rfl h4 h5 h6' h7 h8 h9 h10 h11 h12 h13 q
  | accept x =>
    obtain ⟨fa, fd, F_act, m_act, K_act, B_act⟩ := G3
    obtain ⟨aD, fD, g_MESSAGES, kD, mD⟩ := t3
    have efs : fD = fa := by
      rw [mD] at m_act
      cases m_act
      rfl
    subst efs
    refine ⟨_, (pss_cons (ps_set (i := 2) sc_Homes_handle.nd rfl (by first | exact Or.inl rfl | exact Or.inr rfl) (pe_dget (hu_of hr) (pe_fld (pv 0) rfl) (pe_ix ix_seq (pv 1) pe_int (fun _ _ => rfl)) (fun _ _ => rfl))) (pss_cons (ps_set (i := 3) sc_Homes_handle.nd rfl (by first | exact Or.inl rfl | exact Or.inr rfl) (pe_ix ix_kdA (pe_globR rfl g_MESSAGES) (pe_ix ix_seq (pv 1) pe_int (fun _ _ => rfl)) (fun _ _ => rfl))) (pss_one (ps_ret (pe_callL F_act (hr.mono (by walk_at "lev")) (i := 3) rfl (.inl rfl) K_act B_act .nil pass0 (pa_cons (pv 2) (pa_cons (pv 1) (pa_cons (pe_fld (pv 0) rfl) pa_nil)))))))), ?_⟩
    try dsimp only [cxOf, Cx.nox]
    have h6' := h6
    simp only [Msg.vals] at h6
    repeat' walk_at "st"
    refine q_dgetI hr2 hv ?_
    repeat' walk_at "st"
    refine q_kd kD ?_
    repeat' walk_at "st"
    refine ⟨rfl, ?_⟩
    repeat' walk_at "st"
    exact c_act rfl h4 h5 h6' h7 h8 h9 h10 h11 h12 h13 q
  | cancel x =>
    obtain ⟨fa, fd, F_act, m_act, K_act, B_act⟩ := G4
    obtain ⟨aD, fD, g_MESSAGES, kD, mD⟩ := t4
    have efs : fD = fa := by
      rw [mD] at m_act
      cases m_act
      rfl
    subst efs
    refine ⟨_, (pss_cons (ps_set (i := 2) sc_Homes_handle.nd rfl (by first | exact Or.inl rfl | exact Or.inr rfl) (pe_dget (hu_of hr) (pe_fld (pv 0) rfl) (pe_ix ix_seq (pv 1) pe_int (fun _ _ => rfl)) (fun _ _ => rfl))) (pss_cons (ps_set (i := 3) sc_Homes_handle.nd rfl (by first | exact Or.inl rfl | exact Or.inr rfl) (pe_ix ix_kdA (pe_globR rfl g_MESSAGES) (pe_ix ix_seq (pv 1) pe_int (fun _ _ => rfl)) (fun _ _ => rfl))) (pss_one (ps_ret (pe_callL F_act (hr.mono (by walk_at "lev")) (i := 3) rfl (.inl rfl) K_act B_act .nil pass0 (pa_cons (pv 2) (pa_cons (pv 1) (pa_cons (pe_fld (pv 0) rfl) pa_nil)))))))), ?_⟩
    try dsimp only [cxOf, Cx.nox]
    have h6' := h6
    simp only [Msg.vals] at h6
    repeat' walk_at "st"
    refine q_dgetI hr2 hv ?_
    repeat' walk_at "st"
    refine q_kd kD ?_
    repeat' walk_at "st"
    refine ⟨rfl, ?_⟩
    repeat' walk_at "st"
    exact c_act rfl h4 h5 h6' h7 h8 h9 h10 h11 h12 h13 q
variable {C CS : Addr}
/-! ### the law's model of a channel -/
def moff (d : Ch) : Option (Int × Option Int) := d.off.map fun p => (p.1, some p.2)
structure MAt (H : Hp) (ma ia : Addr) (d : Ch) : Prop where
  ob : ∃ ov, H ma = some (.lst [ov, aV d.ask, .ref ia]) ∧ OfI H (moff d) ov
  ls : H ia = some (.lst (d.left.map V.int))
theorem MAt.kp {M : List Addr} {H H' : Hp} {ma ia : Addr} {d : Ch} (k : Kp M H H') (a : ma ∉ M) (b : ia ∉ M) (q : MAt H ma ia d) : MAt H' ma ia d := by
  obtain ⟨⟨ov, h1, h2⟩, h3⟩ := q
  exact ⟨⟨ov, k.out _ _ a h1, h2.kp k⟩, k.out _ _ b h3⟩
def sp_lmsg (K : PySem.W.Frag) : Sp := fun vs H Q _ => ∃ (st c0 ma ia : Addr) (c : Int) (d : Ch), vs = [.ref st, .int c, .str d.kd.s, .ref ma] ∧ StOk st c0 H ∧ MAt H ma ia d ∧ d.Ok ∧ ma ∉ [st, c0] ∧ ia ∉ [st, c0] ∧ d.left.length ≤ 1000 ∧
  (∀ H', Kp [st, c0] H H' → StOk st c0 H' → Q .non H') ∧ ∀ H' t m, Kp [st, c0] H H' → StOk st c0 H' → H' t = some (.tup (Msg.vals c m)) → m.ok d → Q (.ref t) H'
theorem c_lmsg {st c0 ma ia : Addr} {c : Int} {d : Ch} {H : Hp} {Q : VK} {E : XK} (h1 : StOk st c0 H) (h2 : MAt H ma ia d) (h3 : d.Ok) (h4 : ma ∉ [st, c0]) (h5 : ia ∉ [st, c0]) (h6 : d.left.length ≤ 1000) (q1 : ∀ H', Kp [st, c0] H H' → StOk st c0 H' → Q .non H')
  (q : ∀ H' t m, Kp [st, c0] H H' → StOk st c0 H' → H' t = some (.tup (Msg.vals c m)) → m.ok d → Q (.ref t) H') : sp_lmsg K [.ref st, .int c, .str d.kd.s, .ref ma] H Q E := ⟨st, c0, ma, ia, c, d, rfl, h1, h2, h3, h4, h5, h6, q1, q⟩
theorem ok_lmsg (T : Glo K w mg) (D : Dn K mg "_law_message" s__law_message p__law_message) (G__law_draw : Cal P w K mg base "_law_draw" 1 p__law_draw sp_draw) (G__law_pick : Cal P w K mg base "_law_pick" 2 p__law_pick (sp_pick K)) : Cal P w K mg base "_law_message" 3 p__law_message (sp_lmsg K) := by
  refine D.ok sc__law_message (fun vs H Q E h => ?_) (fun f cdv A outer s H vs Q E hr h => ?_)
  · obtain ⟨_, _, _, _, _, _, rfl, _⟩ := h
    rfl
  obtain ⟨st, c0, ma, ia, c, d, rfl, so, ⟨⟨ov, hma, hof⟩, hia⟩, dok, nma, nia, zl, q1, q⟩ := h
  refine ⟨_, (pss_cons (ps_par (i := 4) (j := 5) rfl sc__law_message.nd rfl rfl (by decide) rfl rfl (pa_cons (pe_ix ix_seq (pv 3) pe_int (fun _ _ => rfl)) (pa_cons (pe_ix ix_seq (pv 3) pe_int (fun _ _ => rfl)) pa_nil)) rfl) (pss_cons (ps_set (i := 6) sc__law_message.nd rfl (by first | exact Or.inl rfl | exact Or.inr rfl) (pe_or (pe_cmpR op_notN1 (pv 4) pe_non (nomark _)) (pe_one (pe_and (pe_cmpR (op_eqA (hu64 hr)) (pv 2) pe_str (nomark _)) (pe_one (pe_cmpR op_gt (pe_callB call_lenA rfl T.n_len (by decide +kernel) (pa_cons (pe_ix ix_seq (pv 3) pe_int (fun _ _ => rfl)) pa_nil)) pe_int (nomark _))))))) (pss_cons (ps_set (i := 7) sc__law_message.nd rfl (by first | exact Or.inl rfl | exact Or.inr rfl) (pe_lst pa_nil)) (pss_cons (ps_if (PW.pt (pw_or (pt_cmpR (op_eqA (hu64 hr)) (pv 2) pe_str (nomark _)) (pw_or1 (PW.pt (pw_and (pt_cmpR (op_eqA (hu64 hr)) (pv 2) pe_str (nomark _)) (pw_and1 (pt_cmpR op_isN1 (pv 4) pe_non (nomark _)))))))) (pss_one (ps_expr (pe_bm PySem.F.plainAttrs_list PySem.F.slot_list_append PySem.F.type_list_append mt_append (pv 7) (pa_cons (pe_tup (pa_cons pe_str (pa_cons (pv 1) (pa_cons (pe_cal G__law_draw (hr.mono (by walk_at "lev")) rfl (pa_cons (pv 0) (pa_cons pe_int pa_nil))) (pa_cons (pe_op op_addA pe_int (pv 1)) pa_nil))))) pa_nil)))) pss_nil) (pss_cons (ps_if (PW.pt (pw_and (pt_cmpR (op_neA (hu64 hr)) (pv 2) pe_str (nomark _)) (pw_and1 (pt_cmpR op_isN1 (pv 5) pe_non (nomark _))))) (pss_one (ps_expr (pe_bm PySem.F.plainAttrs_list PySem.F.slot_list_append PySem.F.type_list_append mt_append (pv 7) (pa_cons (pe_tup (pa_cons pe_str (pa_cons (pv 1) (pa_cons (pe_op op_addA pe_int (pv 1)) pa_nil)))) pa_nil)))) pss_nil) (pss_cons (ps_if (PW.pt (pw_and (pt_cmpR (op_neA (hu64 hr)) (pv 2) pe_str (nomark _)) (pw_and1 (pt_cmpR op_notN1 (pv 5) pe_non (nomark _))))) (pss_cons (ps_expr (pe_bm PySem.F.plainAttrs_list PySem.F.slot_list_append PySem.F.type_list_append mt_append (pv 7) (pa_cons (pe_tup (pa_cons pe_str (pa_cons (pv 1) (pa_cons (pv 5) pa_nil)))) pa_nil))) (pss_one (ps_if (pt_val (pv 6)) (pss_one (ps_set (i := 7) sc__law_message.nd rfl (by first | exact Or.inl rfl | exact Or.inr rfl) (pe_op op_addA (pv 7) (pe_lst (pa_cons (pe_tup (pa_cons pe_str (pa_cons (pv 1) (pa_cons (pv 5) pa_nil)))) (pa_cons (pe_tup (pa_cons pe_str (pa_cons (pv 1) (pa_cons (pv 5) pa_nil)))) pa_nil)))))) pss_nil))) pss_nil) (pss_one (ps_ret (pe_ifExp (pt_cmpR op_gt (pe_callB call_lenA rfl T.n_len (by decide +kernel) (pa_cons (pv 7) pa_nil)) pe_int (nomark _)) (pe_cal G__law_pick (hr.mono (by walk_at "lev")) rfl (pa_cons (pv 0) (pa_cons (pv 7) pa_nil))) pe_non))))))))), ?_⟩
  try dsimp only [cxOf, Cx.nox]
  obtain ⟨kd, off, ask, left, outs⟩ := d
  dsimp only at hma hof hia zl ⊢
  cases kd with
  | out =>
    obtain ⟨rfl, rfl⟩ := dok.out rfl
    have : left = [] := dok.nin (by intro z; cases z)
    subst this
    cases (hof : ov = .non)
    simp only [Kd.s, aV] at hma ⊢
    repeat' walk_at "st"
    have m := List.mem_of_getElem? ej
    simp only [List.nil_append, List.mem_cons, List.not_mem_nil, or_false] at m
    subst m
    exact q _ _ (.offer dn (20 + c)) (by walk_at "kpx") so (by walk_at "lift") (.inl rfl)
  | inn =>
    have := dok.inn rfl
    dsimp only at this
    subst this
    cases (hof : ov = .non)
    cases ask with
    | none =>
      simp only [Kd.s, aV] at hma ⊢
      cases left with
      | nil =>
        repeat' walk_at "st"
        have m := List.mem_of_getElem? ej
        simp only [List.nil_append, List.mem_cons, List.not_mem_nil, or_false] at m
        subst m
        exact q _ _ (.ask (40 + c)) (by walk_at "kpx") so (by walk_at "lift") ⟨(by intro z; cases z), rfl⟩
      | cons x r =>
        repeat' walk_at "st"
        have m := List.mem_of_getElem? ej
        simp only [List.nil_append, List.mem_cons, List.not_mem_nil, or_false] at m
        subst m
        exact q _ _ (.ask (40 + c)) (by walk_at "kpx") so (by walk_at "lift") ⟨(by intro z; cases z), rfl⟩
    | some a =>
      simp only [Kd.s, aV] at hma ⊢
      cases left with
      | nil =>
        repeat' walk_at "st"
        have m := List.mem_of_getElem? ej
        simp only [List.nil_append, List.mem_cons, List.not_mem_nil, or_false] at m
        subst m
        exact q _ _ (.cancel a) (by walk_at "kpx") so (by walk_at "lift") ⟨(by intro z; cases z), rfl⟩
      | cons x r =>
        repeat' walk_at "st"
        have m := List.mem_of_getElem? ej
        simp only [List.nil_append, List.cons_append, List.mem_cons, List.not_mem_nil, or_false] at m
        rcases m with rfl | rfl | rfl
        · exact q _ _ (.cancel a) (by walk_at "kpx") so (by walk_at "lift") ⟨(by intro z; cases z), rfl⟩
        · exact q _ _ (.accept a) (by walk_at "kpx") so (by walk_at "lift") ⟨(by intro z; cases z), rfl, .inr ⟨rfl, (by intro z; cases z)⟩⟩
        · exact q _ _ (.accept a) (by walk_at "kpx") so (by walk_at "lift") ⟨(by intro z; cases z), rfl, .inr ⟨rfl, (by intro z; cases z)⟩⟩
  | mid =>
    have : left = [] := dok.nin (by intro z; cases z)
    subst this
    cases off with
    | none =>
      cases (hof : ov = .non)
      cases ask with
      | none =>
        simp only [Kd.s, aV] at hma ⊢
        repeat' walk_at "st"
        have m := List.mem_of_getElem? ej
        simp only [List.nil_append, List.cons_append, List.mem_cons, List.not_mem_nil, or_false] at m
        rcases m with rfl | rfl
        · exact q _ _ (.offer dn (20 + c)) (by walk_at "kpx") so (by walk_at "lift") (.inr ⟨rfl, rfl⟩)
        · exact q _ _ (.ask (40 + c)) (by walk_at "kpx") so (by walk_at "lift") ⟨(by intro z; cases z), rfl⟩
      | some a =>
        simp only [Kd.s, aV] at hma ⊢
        repeat' walk_at "st"
        have m := List.mem_of_getElem? ej
        simp only [List.nil_append, List.cons_append, List.mem_cons, List.not_mem_nil, or_false] at m
        rcases m with rfl | rfl
        · exact q _ _ (.offer dn (20 + c)) (by walk_at "kpx") so (by walk_at "lift") (.inr ⟨rfl, rfl⟩)
        · exact q _ _ (.cancel a) (by walk_at "kpx") so (by walk_at "lift") ⟨(by intro z; cases z), rfl⟩
    | some xy =>
      obtain ⟨x, y⟩ := xy
      obtain ⟨tv, rfl, htv⟩ := hof
      simp only [aV] at htv
      cases ask with
      | none =>
        simp only [Kd.s, aV] at hma ⊢
        repeat' walk_at "st"
        have m := List.mem_of_getElem? ej
        simp only [List.nil_append, List.cons_append, List.mem_cons, List.not_mem_nil, or_false] at m
        subst m
        exact q _ _ (.ask (40 + c)) (by walk_at "kpx") so (by walk_at "lift") ⟨(by intro z; cases z), rfl⟩
      | some a =>
        simp only [Kd.s, aV] at hma ⊢
        repeat' walk_at "st"
        have m := List.mem_of_getElem? ej
        simp only [List.nil_append, List.cons_append, List.mem_cons, List.not_mem_nil, or_false] at m
        rcases m with rfl | rfl | rfl
        · exact q _ _ (.cancel a) (by walk_at "kpx") so (by walk_at "lift") ⟨(by intro z; cases z), rfl⟩
        · exact q _ _ (.accept a) (by walk_at "kpx") so (by walk_at "lift") ⟨(by intro z; cases z), rfl, .inl (by intro z; cases z)⟩
        · exact q _ _ (.accept a) (by walk_at "kpx") so (by walk_at "lift") ⟨(by intro z; cases z), rfl, .inl (by intro z; cases z)⟩
def sp_ldue : Sp := fun vs H Q _ => ∃ (ma ia t g va : Addr) (c : Int) (d : Ch) (m : Msg) (es : List V), vs = [.str d.kd.s, .ref ma, .ref t, .ref g, .ref va] ∧ MAt H ma ia d ∧ d.Ok ∧ m.ok d ∧ H t = some (.tup (m.vals c)) ∧ H g = some (.lst es) ∧ H va = some (.lst (d.outs.map V.int)) ∧
  ma ≠ ia ∧ g ≠ ma ∧ g ≠ ia ∧ va ≠ ma ∧ va ≠ ia ∧ va ≠ g ∧ es.length < 90000 ∧ d.outs.length < 90000 ∧
  ∀ H' p xs es', Kp [ma, ia, g, va] H H' → H p = none → H' p = some (.lst xs) → Tps H' xs ((ans c d m).map anD) → MAt H' ma ia (stp d m) → H' va = some (.lst ((stp d m).outs.map V.int)) → H' g = some (.lst (es ++ es')) → Tps H' es' ((logd c d m).map evD) → Q (.ref p) H'
theorem c_ldue {ma ia t g va : Addr} {c : Int} {d : Ch} {m : Msg} {es : List V} {H : Hp} {Q : VK} {E : XK} (h1 : MAt H ma ia d) (h2 : d.Ok) (h3 : m.ok d) (h4 : H t = some (.tup (m.vals c))) (h5 : H g = some (.lst es)) (h6 : H va = some (.lst (d.outs.map V.int)))
  (n1 : ma ≠ ia) (n2 : g ≠ ma) (n3 : g ≠ ia) (n4 : va ≠ ma) (n5 : va ≠ ia) (n6 : va ≠ g) (l1 : es.length < 90000) (l2 : d.outs.length < 90000)
  (q : ∀ H' p xs es', Kp [ma, ia, g, va] H H' → H p = none → H' p = some (.lst xs) → Tps H' xs ((ans c d m).map anD) → MAt H' ma ia (stp d m) → H' va = some (.lst ((stp d m).outs.map V.int)) → H' g = some (.lst (es ++ es')) → Tps H' es' ((logd c d m).map evD) → Q (.ref p) H') : sp_ldue [.str d.kd.s, .ref ma, .ref t, .ref g, .ref va] H Q E :=
  ⟨ma, ia, t, g, va, c, d, m, es, rfl, h1, h2, h3, h4, h5, h6, n1, n2, n3, n4, n5, n6, l1, l2, q⟩
variable {C CS : Addr}
theorem ok_ldue (T : Glo K w mg) (D : Dn K mg "_law_due" s__law_due p__law_due) : Cal P w K mg base "_law_due" 1 p__law_due sp_ldue := by
  refine D.ok sc__law_due (fun vs H Q E h => ?_) (fun f cdv A outer s H vs Q E hr h => ?_)
  · obtain ⟨_, _, _, _, _, _, _, _, _, rfl, _⟩ := h
    rfl
  obtain ⟨ma, ia, t, g, va, c, d, m, es, rfl, ⟨⟨ov, hma, hof⟩, hia⟩, dok, mok, ht, hg, hva, n1, n2, n3, n4, n5, n6, l1, l2, q⟩ := h
  refine ⟨_, (pss_cons (ps_par (i := 5) (j := 6) rfl sc__law_due.nd rfl rfl (by decide) rfl rfl (pa_cons (pe_ix ix_seq (pv 2) pe_int (fun _ _ => rfl)) (pa_cons (pe_ix ix_seq (pv 2) pe_int (fun _ _ => rfl)) pa_nil)) rfl) (pss_cons (ps_if (PW.pt (pw_and (pt_cmpR (op_eqA (hu64 hr)) (pv 5) pe_str (nomark _)) (pw_and1 (pt_cmpR (op_eqA (hu64 hr)) (pv 0) pe_str (nomark _))))) (pss_cons (ps_expr (pe_bm PySem.F.plainAttrs_list PySem.F.slot_list_append PySem.F.type_list_append mt_append (pv 4) (pa_cons (pe_ix ix_seq (pv 2) pe_int (fun _ _ => rfl)) pa_nil))) (pss_cons (ps_expr (pe_bm PySem.F.plainAttrs_list PySem.F.slot_list_append PySem.F.type_list_append mt_append (pv 3) (pa_cons (pe_tup (pa_cons (pv 6) (pa_cons (pe_ix ix_seq (pv 2) pe_int (fun _ _ => rfl)) pa_nil))) pa_nil))) (pss_one (ps_ret (pe_lst (pa_cons (pe_tup (pa_cons (pe_ix ix_seq (pv 2) pe_int (fun _ _ => rfl)) (pa_cons (pe_tup (pa_cons pe_str (pa_cons (pe_ix ix_seq (pv 2) pe_int (fun _ _ => rfl)) pa_nil))) pa_nil))) pa_nil)))))) pss_nil) (pss_cons (ps_if (pt_cmpR (op_eqA (hu64 hr)) (pv 5) pe_str (nomark _)) (pss_cons (ps_asg (pe_tup (pa_cons (pe_ix ix_seq (pv 2) pe_int (fun _ _ => rfl)) (pa_cons (pe_ix ix_seq (pv 2) pe_int (fun _ _ => rfl)) pa_nil))) (pg_sub (pv 1) pe_int set_list)) (pss_one (ps_ret (pe_ifExp (pt_cmpR op_isN1 (pe_ix ix_seq (pv 1) pe_int (fun _ _ => rfl)) pe_non (nomark _)) (pe_lst pa_nil) (pe_lst (pa_cons (pe_tup (pa_cons (pe_ix ix_seq (pv 1) pe_int (fun _ _ => rfl)) (pa_cons (pe_tup (pa_cons pe_str (pa_cons (pv 6) (pa_cons (pe_ix ix_seq (pv 1) pe_int (fun _ _ => rfl)) pa_nil)))) pa_nil))) pa_nil)))))) pss_nil) (pss_cons (ps_set (i := 7) sc__law_due.nd rfl (by first | exact Or.inl rfl | exact Or.inr rfl) (pe_ix ix_seq (pv 2) pe_int (fun _ _ => rfl))) (pss_cons (ps_if (pt_cmpR (op_eqA (hu64 hr)) (pv 5) pe_str (nomark _)) (pss_cons (ps_asg (pv 7) (pg_sub (pv 1) pe_int set_list)) (pss_cons (ps_set (i := 10) sc__law_due.nd rfl (by first | exact Or.inl rfl | exact Or.inr rfl) (pe_or (pe_cmpR op_notN1 (pe_ix ix_seq (pv 1) pe_int (fun _ _ => rfl)) pe_non (nomark _)) (pe_one (pe_cmpR op_gt (pe_callB call_lenA rfl T.n_len (by decide +kernel) (pa_cons (pe_ix ix_seq (pv 1) pe_int (fun _ _ => rfl)) pa_nil)) pe_int (nomark _))))) (pss_one (ps_ret (pe_ifExp (pt_val (pv 10)) (pe_lst (pa_cons (pe_tup (pa_cons (pv 7) (pa_cons (pe_tup (pa_cons pe_str (pa_cons (pv 6) (pa_cons (pv 7) pa_nil)))) pa_nil))) pa_nil)) (pe_lst pa_nil)))))) pss_nil) (pss_cons (ps_asg pe_non (pg_sub (pv 1) pe_int set_list)) (pss_cons (ps_if (pt_cmpR (op_eqA (hu64 hr)) (pv 5) pe_str (nomark _)) (pss_one (ps_ret (pe_lst (pa_cons (pe_tup (pa_cons (pv 7) (pa_cons (pe_tup (pa_cons pe_str (pa_cons (pv 6) (pa_cons (pv 7) pa_nil)))) pa_nil))) pa_nil)))) pss_nil) (pss_cons (ps_if (pt_cmpR (op_eqA (hu64 hr)) (pv 0) pe_str (nomark _)) (pss_cons (ps_set (i := 8) sc__law_due.nd rfl (by first | exact Or.inl rfl | exact Or.inr rfl) (pe_bm PySem.F.plainAttrs_list PySem.F.slot_list_pop PySem.F.type_list_pop mt_popAt (pe_ix ix_seq (pv 1) pe_int (fun _ _ => rfl)) (pa_cons pe_int pa_nil))) (pss_cons (ps_expr (pe_bm PySem.F.plainAttrs_list PySem.F.slot_list_append PySem.F.type_list_append mt_append (pv 3) (pa_cons (pe_tup (pa_cons (pv 6) (pa_cons (pv 8) pa_nil))) pa_nil))) (pss_one (ps_ret (pe_lst (pa_cons (pe_tup (pa_cons (pv 7) (pa_cons (pe_tup (pa_cons pe_str (pa_cons (pv 6) (pa_cons (pv 8) (pa_cons (pv 7) pa_nil))))) pa_nil))) pa_nil)))))) pss_nil) (pss_cons (ps_asg (pe_ix ix_seq (pv 1) pe_int (fun _ _ => rfl)) (pg_tup rfl (pgs_cons (pg_name (i := 8) sc__law_due.nd rfl (by first | exact Or.inl rfl | exact Or.inr rfl)) (pgs_cons (pg_name (i := 9) sc__law_due.nd rfl (by first | exact Or.inl rfl | exact Or.inr rfl)) pgs_nil)))) (pss_cons (ps_asg pe_non (pg_sub (pv 1) pe_int set_list)) (pss_cons (ps_expr (pe_bm PySem.F.plainAttrs_list PySem.F.slot_list_append PySem.F.type_list_append mt_append (pv 3) (pa_cons (pe_tup (pa_cons (pv 6) (pa_cons (pv 8) pa_nil))) pa_nil))) (pss_one (ps_ret (pe_lst (pa_cons (pe_tup (pa_cons (pv 7) (pa_cons (pe_tup (pa_cons pe_str (pa_cons (pv 6) (pa_cons (pv 8) (pa_cons (pv 7) pa_nil))))) pa_nil))) (pa_cons (pe_tup (pa_cons (pv 9) (pa_cons (pe_tup (pa_cons pe_str (pa_cons (pv 9) pa_nil))) pa_nil))) pa_nil)))))))))))))))), ?_⟩
  try dsimp only [cxOf, Cx.nox]
  obtain ⟨kd, off, ask, left, outs⟩ := d
  dsimp only at hma hof hia hva l2 ⊢
  cases m with
  | offer x y =>
    simp only [Msg.vals] at ht
    cases kd with
    | out =>
      obtain ⟨rfl, rfl⟩ := dok.out rfl
      have : left = [] := dok.nin (by intro z; cases z)
      subst this
      simp only [Kd.s, aV] at hma ⊢
      repeat' walk_at "st"
      refine q _ _ _ [.ref _] (by walk_at "kpx") (by walk_at "frees") hn (by walk_at "tps") ⟨⟨_, (by walk_at "lift"), hof.kp (M := [ma, ia, g, va]) (by walk_at "kpx")⟩, (by walk_at "lift")⟩ ?_ (by walk_at "lift") (by walk_at "tps")
      show Hn va = some (.lst ((outs ++ [x]).map V.int))
      rw [List.map_append]
      walk_at "lift"
    | inn => exact absurd mok (by simp [Msg.ok])
    | mid =>
      simp only [Kd.s] at hma ⊢
      have : left = [] := dok.nin (by intro z; cases z)
      subst this
      cases ask with
      | none =>
        simp only [aV] at hma
        repeat' walk_at "st"
        refine q _ _ _ [] (by walk_at "kpx") (by walk_at "frees") hn (by walk_at "tps") ⟨⟨_, (by walk_at "lift"), ⟨_, rfl, (by walk_at "lift")⟩⟩, (by walk_at "lift")⟩ (by walk_at "lift") (by rw [List.append_nil]; walk_at "lift") (by walk_at "tps")
      | some a =>
        simp only [aV] at hma
        repeat' walk_at "st"
        refine q _ _ _ [] (by walk_at "kpx") (by walk_at "frees") hn (by walk_at "tps") ⟨⟨_, (by walk_at "lift"), ⟨_, rfl, (by walk_at "lift")⟩⟩, (by walk_at "lift")⟩ (by walk_at "lift") (by rw [List.append_nil]; walk_at "lift") (by walk_at "tps")
  | ask a =>
    simp only [Msg.vals] at ht
    obtain ⟨m1, rfl⟩ := mok
    simp only [aV] at hma
    cases off with
    | some xy =>
      obtain ⟨x, y⟩ := xy
      obtain ⟨tv, rfl, htv⟩ := hof
      cases left with
      | nil =>
        repeat' walk_at "st"
        refine q _ _ _ [] (by walk_at "kpx") (by walk_at "frees") hn (by walk_at "tps") ⟨⟨_, (by walk_at "lift"), ⟨_, rfl, (by walk_at "lift")⟩⟩, (by walk_at "lift")⟩ (by walk_at "lift") (by rw [List.append_nil]; walk_at "lift") (by walk_at "tps")
      | cons z r =>
        repeat' walk_at "st"
        refine q _ _ _ [] (by walk_at "kpx") (by walk_at "frees") hn (by walk_at "tps") ⟨⟨_, (by walk_at "lift"), ⟨_, rfl, (by walk_at "lift")⟩⟩, (by walk_at "lift")⟩ (by walk_at "lift") (by rw [List.append_nil]; walk_at "lift") (by walk_at "tps")
    | none =>
      cases (hof : ov = .non)
      cases left with
      | nil =>
        repeat' walk_at "st"
        refine q _ _ _ [] (by walk_at "kpx") (by walk_at "frees") hn (by walk_at "tps") ⟨⟨_, (by walk_at "lift"), rfl⟩, (by walk_at "lift")⟩ (by walk_at "lift") (by rw [List.append_nil]; walk_at "lift") (by walk_at "tps")
      | cons z r =>
        repeat' walk_at "st"
        refine q _ _ _ [] (by walk_at "kpx") (by walk_at "frees") hn (by walk_at "tps") ⟨⟨_, (by walk_at "lift"), rfl⟩, (by walk_at "lift")⟩ (by walk_at "lift") (by rw [List.append_nil]; walk_at "lift") (by walk_at "tps")
  | cancel a =>
    simp only [Msg.vals] at ht
    obtain ⟨m1, rfl⟩ := mok
    simp only [aV] at hma
    repeat' walk_at "st"
    refine q _ _ _ [] (by walk_at "kpx") (by walk_at "frees") hn (by walk_at "tps") ⟨⟨_, (by walk_at "lift"), hof.kp (M := [ma, ia, g, va]) (by walk_at "kpx")⟩, (by walk_at "lift")⟩ (by walk_at "lift") (by rw [List.append_nil]; walk_at "lift") (by walk_at "tps")
  | accept a =>
    simp only [Msg.vals] at ht
    obtain ⟨m1, rfl, m3⟩ := mok
    simp only [aV] at hma
    cases off with
    | some xy =>
      obtain ⟨x, y⟩ := xy
      have : left = [] := dok.nin (fun z => by cases (dok.inn z))
      subst this
      obtain ⟨tv, rfl, htv⟩ := hof
      simp only [aV] at htv
      cases kd with
      | inn => cases (dok.inn rfl)
      | out => exact absurd rfl m1
      | mid =>
        simp only [Kd.s]
        repeat' walk_at "st"
        refine q _ _ _ [.ref _] (by walk_at "kpx") (by walk_at "frees") hn (by walk_at "tps") ⟨⟨_, (by walk_at "lift"), rfl⟩, (by walk_at "lift")⟩ (by walk_at "lift") (by walk_at "lift") (by walk_at "tps")
    | none =>
      cases (hof : ov = .non)
      have m4 := m3.resolve_left (fun z => z rfl)
      obtain ⟨rfl, m5⟩ := m4
      cases left with
      | nil => exact absurd rfl m5
      | cons x r =>
        rw [List.map_cons] at hia
        simp only [Kd.s]
        repeat' walk_at "st"
        refine q _ _ _ [.ref _] (by walk_at "kpx") (by walk_at "frees") hn (by walk_at "tps") ⟨⟨_, (by walk_at "lift"), rfl⟩, (by walk_at "lift")⟩ (by walk_at "lift") (by walk_at "lift") (by walk_at "tps")
/-! ### tags: who is who among the addresses -/
def Al (H H' : Hp) : Prop := ∀ x, H x ≠ none → H' x ≠ none
theorem al_ex {H H' : Hp} (e : Ex H H') : Al H H' := fun x h z => by
  cases h1 : H x with
  | none => exact h h1
  | some o => rw [e _ _ h1] at z; cases z
theorem al_kp {M : List Addr} {H H' : Hp} (k : Kp M H H') (m : ∀ x, x ∈ M → H' x ≠ none) : Al H H' := fun x h z => by
  by_cases hx : x ∈ M
  · exact m x hx z
  · cases h1 : H x with
    | none => exact h h1
    | some o => rw [k.out _ _ hx h1] at z; cases z
theorem Al.trans {H H1 H2 : Hp} (a : Al H H1) (b : Al H1 H2) : Al H H2 := fun x h => b x (a x h)
theorem al_st {st c : Addr} {H H' : Hp} (k : Kp [st, c] H H') (s : StOk st c H') : Al H H' := al_kp k fun x hx => by
  obtain ⟨⟨ns, z, a, b, d⟩, e⟩ := s
  simp only [List.mem_cons, List.not_mem_nil, or_false] at hx
  rcases hx with rfl | rfl
  · exact fsome a
  · exact fsome b
abbrev Tau := Addr → Option (Nat × Nat)
def TgOk (τ : Tau) (H : Hp) : Prop := ∀ x t, τ x = some t → H x ≠ none
def TgLe (τ τ' : Tau) : Prop := ∀ x t, τ x = some t → τ' x = some t
theorem TgLe.refl (τ : Tau) : TgLe τ τ := fun _ _ h => h
theorem TgLe.trans {τ τ1 τ2 : Tau} (a : TgLe τ τ1) (b : TgLe τ1 τ2) : TgLe τ τ2 := fun x t h => b x t (a x t h)
theorem TgOk.al {τ : Tau} {H H' : Hp} (k : TgOk τ H) (a : Al H H') : TgOk τ H' := fun x t h => a x (k x t h)
theorem TgOk.nil {H : Hp} : TgOk (fun _ => none) H := fun x t h => by cases h
theorem tg_new {τ : Tau} {H H' : Hp} (k : TgOk τ H) (a : Al H H') {p : Addr} (n : H p = none) (s : H' p ≠ none) (t : Nat × Nat) : ∃ τ', TgLe τ τ' ∧ τ' p = some t ∧ TgOk τ' H' := by
  refine ⟨fun x => if x = p then some t else τ x, fun x u h => ?_, if_pos rfl, fun x u h => ?_⟩
  · have : x ≠ p := fun z => k x u h (by rw [z]; exact n)
    show (if x = p then some t else τ x) = some u
    rw [if_neg this]
    exact h
  · by_cases z : x = p
    · rw [z]; exact s
    · have h' : (if x = p then some t else τ x) = some u := h
      rw [if_neg z] at h'
      exact a x (k x u h')
theorem ne_tg {τ : Tau} {a b : Addr} {s t : Nat × Nat} (h : τ a = some s) (h' : τ b = some t) (n : s ≠ t) : a ≠ b := fun z => by
  rw [z, h'] at h
  exact n (Option.some.inj h).symm
/-- a family with one more -/
def fset (a : Nat → Addr) (i : Nat) (p : Addr) : Nat → Addr := fun k => if k = i then p else a k
theorem fset_eq {a : Nat → Addr} {i : Nat} {p : Addr} : fset a i p i = p := if_pos rfl
theorem fset_lt {a : Nat → Addr} {i k : Nat} {p : Addr} (h : k < i) : fset a i p k = a k := if_neg (by omega)
def frow (a : Nat → Addr) (n : Nat) : List V := (List.range n).map fun k => V.ref (a k)
theorem frow_len {a : Nat → Addr} {n : Nat} : (frow a n).length = n := by unfold frow; rw [List.length_map, List.length_range]
theorem frow_at {a : Nat → Addr} {n k : Nat} (h : k < n) : (frow a n)[k]? = some (.ref (a k)) := by
  unfold frow
  rw [List.getElem?_map, List.getElem?_range h]
  rfl
theorem frow_set {a : Nat → Addr} {i : Nat} {p : Addr} : frow (fset a i p) (i + 1) = frow a i ++ [.ref p] := by
  unfold frow
  rw [List.range_succ, List.map_append]
  congr 1
  · refine List.map_congr_left fun k hk => ?_
    rw [fset_lt (List.mem_range.mp hk)]
  · show [V.ref (fset a i p i)] = _
    rw [fset_eq]
theorem tg_fam {τ τ' : Tau} {f i : Nat} {a : Nat → Addr} {p : Addr} (le : TgLe τ τ') (h : ∀ k, k < i → τ (a k) = some (f, k)) (n : τ' p = some (f, i)) : ∀ k, k < i + 1 → τ' (fset a i p k) = some (f, k) := fun k hk => by
  by_cases c : k < i
  · rw [fset_lt c]; exact le _ _ (h k c)
  · have : k = i := by omega
    subst this
    rw [fset_eq]; exact n
theorem fam_step {P : Nat → Addr → Prop} {i : Nat} {a : Nat → Addr} {p : Addr} (h : ∀ k, k < i → P k (a k)) (n : P i p) : ∀ k, k < i + 1 → P k (fset a i p k) := fun k hk => by
  by_cases c : k < i
  · rw [fset_lt c]; exact h k c
  · have : k = i := by omega
    subst this
    rw [fset_eq]; exact n
theorem kp_upd {H H9 : Hp} {p : Addr} {xs : List V} {o' : HO} (h : H p = some (.lst xs)) (e : upd H p o' = H9) : Kp [p] H H9 := by
  rw [← e]
  exact kp_one h (by intro _ z; cases z)
local macro_rules | `(tactic| walk_at "ne1") => `(tactic| first
  | (refine ne_tg (τ := ?τ) (s := ?s) (t := ?t) ?a ?b ?n; (case a => assumption); (case b => assumption); (case n => intro z; have z1 := Prod.mk.inj z; omega))
  | fail)
theorem tg0 {st c L : Addr} {H : Hp} (so : StOk st c H) (nL : L ∉ [st, c]) (h : H L ≠ none) : ∃ τ : Tau, τ st = some (7, 0) ∧ τ c = some (7, 1) ∧ τ L = some (8, 0) ∧ TgOk τ H := by
  obtain ⟨⟨ns, z, a, b, d⟩, e⟩ := so
  have h1 : L ≠ st := fun z => nL (by simp [z])
  have h2 : L ≠ c := fun z => nL (by simp [z])
  refine ⟨fun x => if x = st then some (7, 0) else if x = c then some (7, 1) else if x = L then some (8, 0) else none, if_pos rfl, ?_, ?_, fun x t hx => ?_⟩
  · show (if c = st then _ else _) = _
    rw [if_neg e, if_pos rfl]
  · show (if L = st then _ else _) = _
    rw [if_neg h1, if_neg h2, if_pos rfl]
  · have hx' : (if x = st then some (7, 0) else if x = c then some (7, 1) else if x = L then some (8, 0) else none) = some t := hx
    by_cases q1 : x = st
    · rw [q1]; exact fsome a
    · rw [if_neg q1] at hx'
      by_cases q2 : x = c
      · rw [q2]; exact fsome b
      · rw [if_neg q2] at hx'
        by_cases q3 : x = L
        · rw [q3]; exact h
        · rw [if_neg q3] at hx'; cases hx'
/-- a dict by channels -/
def krow (a : Nat → Addr) (n : Nat) : List (Key × V) := (List.range n).map fun (k : Nat) => (Sum.inl (k : Int), V.ref (a k))
theorem krow_find {a : Nat → Addr} {k : Nat} : ∀ n, valV (krow a n) (Sum.inl (k : Int)) = if k < n then some (.ref (a k)) else none
  | 0 => by rw [if_neg (Nat.not_lt_zero k)]; simp [krow, valV]
  | n + 1 => by
    have ih := krow_find (a := a) (k := k) n
    unfold valV krow at ih ⊢
    rw [List.range_succ, List.map_append, List.find?_append]
    by_cases c : k < n
    · rw [if_pos c] at ih
      rw [if_pos (by omega)]
      obtain ⟨x, hx, hv⟩ := Option.map_eq_some_iff.mp ih
      rw [hx]
      exact congrArg some hv
    · rw [if_neg c] at ih
      rw [Option.map_eq_none_iff.mp ih]
      by_cases d : k = n
      · subst d
        rw [if_pos (by omega)]
        simp
      · rw [if_neg (by omega)]
        have : ¬ (n : Int) = (k : Int) := by omega
        simp [this]
theorem krow_put {a : Nat → Addr} {i : Nat} {p : Addr} : putK (krow a i) (Sum.inl ((0 : Int) + (i : Int))) (.ref p) = krow (fset a i p) (i + 1) := by
  rw [Int.zero_add, putK_new _ (by rw [krow_find, if_neg (Nat.lt_irrefl i)])]
  unfold krow
  rw [List.range_succ, List.map_append]
  congr 1
  · refine List.map_congr_left fun k hk => ?_
    rw [fset_lt (List.mem_range.mp hk)]
  · show [_] = [(Sum.inl (i : Int), V.ref (fset a i p i))]
    rw [fset_eq]
theorem krow_len {a : Nat → Addr} {n : Nat} : (krow a n).length = n := by unfold krow; rw [List.length_map, List.length_range]
theorem frow_atI {a : Nat → Addr} {n k : Nat} (h : k < n) : atI (frow a n) ((0 : Int) + (k : Int)) = some (.ref (a k)) := by
  rw [Int.zero_add]
  exact atI_nat (frow_at h)
theorem atI_0 {α : Type} {xs : List α} {k : Nat} {x : α} (h : xs[k]? = some x) : atI xs ((0 : Int) + (k : Int)) = some x := by
  rw [Int.zero_add]
  exact atI_nat h
theorem TgOk.none {τ : Tau} {H : Hp} (k : TgOk τ H) {p : Addr} (n : H p = none) : τ p = none := by
  cases h : τ p with
  | none => rfl
  | some t => exact absurd n (k p t h)
theorem tg_add {τ : Tau} {H' : Hp} (k : TgOk τ H') {p : Addr} (n : τ p = none) (s : H' p ≠ none) (t : Nat × Nat) : ∃ τ', TgLe τ τ' ∧ τ' p = some t ∧ TgOk τ' H' ∧ ∀ x, x ≠ p → τ x = none → τ' x = none := by
  refine ⟨fun x => if x = p then some t else τ x, fun x u h => ?_, if_pos rfl, fun x u h => ?_, fun x hx h => ?_⟩
  · have : x ≠ p := fun z => by rw [z, n] at h; cases h
    show (if x = p then some t else τ x) = some u
    rw [if_neg this]
    exact h
  · by_cases z : x = p
    · rw [z]; exact s
    · have h' : (if x = p then some t else τ x) = some u := h
      rw [if_neg z] at h'
      exact k x u h'
  · show (if x = p then some t else τ x) = none
    rw [if_neg hx]
    exact h
/-- a family of new lists that a comprehension makes -/
def FamG (τ1 : Tau) (f : Nat) (H3 : Hp) (D : Addr) (g : Nat → List V) (i : Nat) (H' : Hp) : Prop := ∃ (τ : Tau) (a : Nat → Addr), TgLe τ1 τ ∧ TgOk τ H' ∧ (∀ k, k < i → τ (a k) = some (f, k)) ∧ Ex H3 H' ∧ H' D = some (.lst (frow a i)) ∧ ∀ k, k < i → H' (a k) = some (.lst (g k))
theorem FamG.zero {τ1 : Tau} {f d : Nat} {H3 : Hp} {D : Addr} {g : Nat → List V} (tg : TgOk τ1 H3) (hD : H3 D = none) : ∃ τ2, TgLe τ1 τ2 ∧ τ2 D = some (8, d) ∧ FamG τ2 f H3 D g 0 (upd H3 D (.lst [])) := by
  obtain ⟨τ2, le2, t2, tg2⟩ := tg_new tg (al_ex (Ex.mk (o := .lst []) hD rfl)) hD (fsome upd_same) (8, d)
  exact ⟨τ2, le2, t2, τ2, fun _ => 0, TgLe.refl _, tg2, fun k hk => absurd hk (Nat.not_lt_zero k), Ex.mk hD rfl, upd_same, fun k hk => absurd hk (Nat.not_lt_zero k)⟩
theorem FamG.step {τ1 : Tau} {f d i : Nat} {H3 H4 H5 : Hp} {D p : Addr} {g : Nat → List V} (hD : H3 D = none) (tD : τ1 D = some (8, d)) (nf : f ≠ 8) (h : FamG τ1 f H3 D g i H4) (e : Ex H4 H5) (np : H4 p = none) (hp : H5 p = some (.lst (g i))) (li : i ≤ 1000) :
    ∃ acc, H5 D = some (.lst acc) ∧ acc.length < sizeLine ∧ FamG τ1 f H3 D g (i + 1) (upd H5 D (.lst (acc ++ [.ref p]))) := by
  obtain ⟨τ, a, le, tg, ta, k3, hD4, hg⟩ := h
  have hD5 := e _ _ hD4
  refine ⟨_, hD5, sl1000' (by rw [frow_len]; omega), ?_⟩
  generalize hq : upd H5 D _ = H9
  have k9 := kp_upd hD5 hq
  have h9 := at_new hq
  have npD : p ≠ D := (ne_of_none hD4 np).symm
  have a9 : Al H4 H9 := (al_ex e).trans (al_kp k9 fun x hx => by rw [List.mem_singleton.mp hx]; exact fsome h9)
  have hp9 : H9 p = some (.lst (g i)) := k9.out _ _ (nin_c npD List.not_mem_nil) hp
  obtain ⟨τ', le', tp', tg'⟩ := tg_new tg a9 np (fsome hp9) (f, i)
  refine ⟨τ', fset a i p, le.trans le', tg', tg_fam le' ta tp', ?_, by rw [h9, frow_set], fam_step (P := fun k x => H9 x = some (.lst (g k))) (fun k hk => ?_) hp9⟩
  · exact fun b u hb => k9.out _ _ (nin_c (ne_of_none hb hD) List.not_mem_nil) (e _ _ (k3 _ _ hb))
  · refine k9.out _ _ (nin_c (ne_tg (ta k hk) (le _ _ tD) (fun z => nf (Prod.mk.inj z).1)) List.not_mem_nil) (e _ _ (hg k hk))
variable {C CS : Addr}
theorem c_state {a : Addr} {ns : List Int} {H : Hp} {Q : VK} {E : XK} (h1 : SqL K H a (ns.map V.int)) (h2 : ns.length ≤ 63) (q : ∀ st c H', Ex H H' → H st = none → H c = none → StOk st c H' → Q (.ref st) H') : sp_state K [.ref a] H Q E := ⟨a, ns, rfl, h1, h2, q⟩
def sp_law (K : PySem.W.Frag) : Sp := fun vs H Q _ => ∃ (a : Addr) (ns : List Int), vs = [.ref a] ∧ SqL K H a (ns.map V.int) ∧ ns.length ≤ 63 ∧ ∀ H', Q (.bl true) H'
theorem q_makH {H : Hp} {Q : VK} {a : Addr} {kd : Kd} {ls : List Int} (ha : H a = some (.lst (ls.map V.int))) (hl : ls.length ≤ 1000)
    (q : ∀ H' h dx o l, Ex H H' → H h = none → H o = none → H l = none → o ≠ l → HAt C H' h dx o l ⟨kd, none, none, ls, []⟩ → Q (.ref h) H') : makK C (sp_hinit C) Q [.str kd.s, .ref a] H := by
  intro h dx nh ndx ne
  have nah : a ≠ h := ne_of_none ha nh
  have nad : a ≠ dx := ne_of_none ha ndx
  refine ⟨h, dx, a, kd, ls, rfl, upd_same, by rw [upd_ne nah, upd_ne nad]; exact ha, hl, fun H' o l ho hl' nol k hat => ⟨rfl, ?_⟩⟩
  have e : Ex H H' := fun b u hb => k.out _ _ (nin_c (ne_of_none hb nh) List.not_mem_nil) (by rw [upd_ne (ne_of_none hb nh), upd_ne (ne_of_none hb ndx)]; exact hb)
  have fr : ∀ x, upd (upd H dx (.own h)) h (.ins C dx []) x = none → H x = none := fun x hx => by
    by_cases z : x = h
    · rw [z]; exact nh
    · rw [upd_ne z] at hx
      by_cases z2 : x = dx
      · rw [z2]; exact ndx
      · rw [upd_ne z2] at hx
        exact hx
  exact q H' h dx o l e nh (fr o ho) (fr l hl') nol hat
theorem q_makHs {H : Hp} {Q : VK} {r g : Addr} (q : ∀ H' x dx, Ex H H' → H x = none → H' x = some (.ins CS dx [("rows", .ref r), ("log", .ref g)]) → Q (.ref x) H') : makK CS (sp_hsinit CS) Q [.ref r, .ref g] H := by
  intro h dx nh ndx ne
  refine ⟨h, dx, r, g, rfl, upd_same, fun H' k hx => ⟨rfl, ?_⟩⟩
  exact q H' h dx (fun b u hb => k.out _ _ (nin_c (ne_of_none hb nh) List.not_mem_nil) (by rw [upd_ne (ne_of_none hb nh), upd_ne (ne_of_none hb ndx)]; exact hb)) nh hx
theorem stp_kd {d : Ch} {m : Msg} : (stp d m).kd = d.kd := by
  cases m with
  | offer x g =>
    obtain ⟨kd, off, ask, left, outs⟩ := d
    cases kd <;> rfl
  | ask a => rfl
  | cancel a => rfl
  | accept a => rfl
theorem stp_ok {d : Ch} {m : Msg} (h : d.Ok) (o : m.ok d) : (stp d m).Ok := by
  obtain ⟨kd, off, ask, left, outs⟩ := d
  obtain ⟨h1, h2, h3⟩ := h
  dsimp only at h1 h2 h3
  cases m with
  | offer x g =>
    cases kd with
    | out => exact ⟨h1, h2, h3⟩
    | mid => exact ⟨(fun z => by cases z), h2, (fun z => by cases z)⟩
    | inn => exact absurd o (by simp [Msg.ok])
  | ask a => exact ⟨h1, h2, fun z => absurd z o.1⟩
  | cancel a => exact ⟨h1, h2, fun z => absurd z o.1⟩
  | accept a => exact ⟨fun _ => rfl, fun z => (by show left.tail = []; rw [h2 z]; rfl), fun z => absurd z o.1⟩
theorem stp_left {d : Ch} {m : Msg} : (stp d m).left.length ≤ d.left.length := by
  obtain ⟨kd, off, ask, left, outs⟩ := d
  cases m with
  | offer x g => cases kd <;> exact Nat.le_refl _
  | ask a => exact Nat.le_refl _
  | cancel a => exact Nat.le_refl _
  | accept a =>
    show left.tail.length ≤ left.length
    rw [List.length_tail]
    omega
theorem stp_outs {d : Ch} {m : Msg} : (stp d m).outs.length ≤ d.outs.length + 1 := by
  obtain ⟨kd, off, ask, left, outs⟩ := d
  cases m with
  | offer x g =>
    cases kd
    · exact Nat.le_succ _
    · show (outs ++ [x]).length ≤ _
      rw [List.length_append]
      exact Nat.le_refl _
    · exact Nat.le_succ _
  | ask a => exact Nat.le_succ _
  | cancel a => exact Nat.le_succ _
  | accept a => exact Nat.le_succ _
theorem logd_len {c : Int} {d : Ch} {m : Msg} : (logd c d m).length ≤ 1 := by
  obtain ⟨kd, off, ask, left, outs⟩ := d
  cases m with
  | offer x g => cases kd <;> simp [logd]
  | ask a => exact Nat.zero_le _
  | cancel a => exact Nat.zero_le _
  | accept a => exact Nat.le_refl _
theorem an_lay {a : An} (h : a.2.1 ∈ (["taken", "offered", "word", "cancelled"] : List Str)) : (anD a).canLay0 = true := by
  have k : ∀ x ∈ (["taken", "offered", "word", "cancelled"] : List Str), (PyData.str x).canLay0 = true := by decide +kernel
  have h1 := k _ h
  simp only [PyData.canLay0] at h1
  simp only [anD, PyData.canLay0, PyData.canLayAll0, fints_lay, h1, Bool.and_self]
theorem an_depth (a : An) : (anD a).depth ≤ 5 := by simp [anD, PyData.depth, PyData.depthAll, fints_depth]
theorem ans_lay {c : Int} {d : Ch} {m : Msg} : PyData.canLayAll0 ((ans c d m).map anD) = true := by
  refine flay_map _ fun x hx => an_lay ?_
  obtain ⟨kd, off, ask, left, outs⟩ := d
  cases m with
  | offer y g =>
    cases kd <;> cases ask <;> simp [ans, offd] at hx <;> simp [hx]
  | ask a => cases off <;> cases left <;> simp [ans, offd] at hx <;> simp [hx]
  | cancel a => simp [ans] at hx; simp [hx]
  | accept a =>
    cases off with
    | none => simp [ans] at hx; simp [hx]
    | some xy => simp [ans] at hx; rcases hx with hx | hx <;> simp [hx]
theorem ans_depth {c : Int} {d : Ch} {m : Msg} : PyData.depthAll ((ans c d m).map anD) ≤ 20 := by
  have := fdepth_map (f := anD) (b := 5) (ans c d m) fun x _ => an_depth x
  omega
theorem ev_lay {L : List (Int × Int)} : PyData.canLayAll0 (L.map evD) = true := flay_map _ fun x _ => by simp [evD, PyData.canLay0, PyData.canLayAll0]
theorem ev_depth {L : List (Int × Int)} : PyData.depthAll (L.map evD) ≤ 20 := by
  have := fdepth_map (f := evD) (b := 5) L fun x _ => by simp [evD, PyData.depth, PyData.depthAll]
  omega
theorem body_law {fd : FuncData} {fa : Addr} {F : Fun K "law" "law" s_law fa fd} (T : Glo K w mg) (G__law_state : Cal P w K mg base "_law_state" 1 p__law_state (sp_state K)) (G__law_draw : Cal P w K mg base "_law_draw" 1 p__law_draw sp_draw) (G__law_pick : Cal P w K mg base "_law_pick" 2 p__law_pick (sp_pick K))
    (M_Home : MakC P w K mg base "Home" C 2 p_Home___init__ (sp_hinit C)) (M_Homes : MakC P w K mg base "Homes" CS 1 p_Homes___init__ (sp_hsinit CS)) (W : HmK K C) (WS : HsK K CS)
    (G__law_message : Cal P w K mg base "_law_message" 3 p__law_message (sp_lmsg K)) (G__law_due : Cal P w K mg base "_law_due" 1 p__law_due sp_ldue) (G_Homes_handle : MetC P w K mg base CS "handle" 3 p_Homes_handle (sp_handle C CS)) : FnOk P w K mg base CX0 6 fa fd ["script"] (sp_law K) := by
  obtain ⟨hc, n1, n2, n3, n4, n5⟩ := W
  obtain ⟨hcS, nR, nG⟩ := WS
  refine F.ok sc_law (fun vs H Q E h => ?_) (fun cdv A outer s H vs Q E hr h => ?_)
  · obtain ⟨_, _, rfl, _⟩ := h
    rfl
  obtain ⟨a, ns, rfl, hs, hl, q⟩ := h
  refine ⟨_, (pss_cons (ps_set (i := 1) sc_law.nd rfl (by first | exact Or.inl rfl | exact Or.inr rfl) (pe_cal G__law_state (hr.mono (by walk_at "lev")) rfl (pa_cons (pv 0) pa_nil))) (pss_cons (ps_setLc (i := 2) (own := [("k", 11)]) (tt := tYes) rfl sc_law.nd rfl rfl (sw_true rfl rfl rfl (by decide +kernel)) (pi_range1 rfl T.n_range (pa_cons (pe_op op_addA pe_int (pe_cal G__law_draw (hr.mono (by walk_at "lev")) rfl (pa_cons (pv 1) (pa_cons pe_int pa_nil)))) pa_nil)) (blkOk_by (N := ["script", "state", "kinds", "inputs", "rows", "channel", "events", "homes", "models", "outputs", "log", "k", "message", "due", "told", "kind"]) (sc := defScope s_law) (by decide +kernel)) (fun _ _ _ _ _ => (pg_name (i := 11) sc_law.nd rfl (by first | exact Or.inl rfl | exact Or.inr rfl))) (fun _ _ _ _ _ => pts_nil) (fun _ _ _ _ _ => (pe_cal G__law_pick (hr.mono (by walk_at "lev")) rfl (pa_cons (pv 1) (pa_cons (pe_lst (pa_cons pe_str (pa_cons pe_str (pa_cons pe_str (pa_cons pe_str pa_nil))))) pa_nil))))) (pss_cons (ps_set (i := 3) sc_law.nd rfl (by first | exact Or.inl rfl | exact Or.inr rfl) (pe_lc (own := [("kind", 15)]) (tt := tYes) rfl sc_law.nd (pi_list (pv 2)) (blkOk_by (N := ["script", "state", "kinds", "inputs", "rows", "channel", "events", "homes", "models", "outputs", "log", "k", "message", "due", "told", "kind"]) (sc := defScope s_law) (by decide +kernel)) (fun _ _ _ _ _ => (pg_name (i := 15) sc_law.nd rfl (by first | exact Or.inl rfl | exact Or.inr rfl))) (fun _ _ _ _ _ => pts_nil) (fun _ _ _ _ _ => (pe_ifExp (pt_cmpR (op_eqK (K := K) rfl (hu64 hr)) (pv 15) pe_str (nomark _)) (pe_lc (own := [("k", 11)]) (tt := tYes) rfl sc_law.nd (pi_range1 rfl T.n_range (pa_cons (pe_cal G__law_draw (hr.mono (by walk_at "lev")) rfl (pa_cons (pv 1) (pa_cons pe_int pa_nil))) pa_nil)) (blkOk_by (N := ["script", "state", "kinds", "inputs", "rows", "channel", "events", "homes", "models", "outputs", "log", "k", "message", "due", "told", "kind"]) (by kernel_rfl)) (fun _ _ _ _ _ => (pg_name (i := 11) sc_law.nd rfl (by first | exact Or.inl rfl | exact Or.inr rfl))) (fun _ _ _ _ _ => pts_nil) (fun _ _ _ _ _ => (pe_cal G__law_draw (hr.mono (by walk_at "lev")) rfl (pa_cons (pv 1) (pa_cons pe_int pa_nil))))) (pe_lst pa_nil))))) (pss_cons (ps_set (i := 4) sc_law.nd rfl (by first | exact Or.inl rfl | exact Or.inr rfl) pe_dnewK) (pss_cons (ps_for PassesOwn.never rfl (pi_range1 rfl T.n_range (pa_cons (pe_callB call_lenA rfl T.n_len (by decide +kernel) (pa_cons (pv 2) pa_nil)) pa_nil)) (pg_name (i := 5) sc_law.nd rfl (by first | exact Or.inl rfl | exact Or.inr rfl)) (pss_one (ps_dput (hu_of hr) (pv 4) (pv 5) (pe_mkC M_Home (hr.mono (by walk_at "lev")) rfl (pa_cons (pe_ix ix_seq (pv 2) (pv 5) (fun _ _ => rfl)) (pa_cons (pe_callTy call_listA rfl T.n_list (by decide +kernel) (pa_cons (pe_ix ix_seq (pv 3) (pv 5) (fun _ _ => rfl)) pa_nil)) pa_nil))) rfl))) (pss_cons (ps_set (i := 6) sc_law.nd rfl (by first | exact Or.inl rfl | exact Or.inr rfl) (pe_lst pa_nil)) (pss_cons (ps_set (i := 7) sc_law.nd rfl (by first | exact Or.inl rfl | exact Or.inr rfl) (pe_mkC M_Homes (hr.mono (by walk_at "lev")) rfl (pa_cons (pv 4) (pa_cons (pv 6) pa_nil)))) (pss_cons (ps_setLc (i := 8) (own := [("channel", 5)]) (tt := tYes) rfl sc_law.nd rfl rfl (sw_true rfl rfl rfl (by decide +kernel)) (pi_range1 rfl T.n_range (pa_cons (pe_callB call_lenA rfl T.n_len (by decide +kernel) (pa_cons (pv 2) pa_nil)) pa_nil)) (blkOk_by (N := ["script", "state", "kinds", "inputs", "rows", "channel", "events", "homes", "models", "outputs", "log", "k", "message", "due", "told", "kind"]) (sc := defScope s_law) (by decide +kernel)) (fun _ _ _ _ _ => (pg_name (i := 5) sc_law.nd rfl (by first | exact Or.inl rfl | exact Or.inr rfl))) (fun _ _ _ _ _ => pts_nil) (fun _ _ _ _ _ => (pe_lst (pa_cons pe_non (pa_cons pe_non (pa_cons (pe_ix (ix_seqK (K := K) rfl) (pv 3) (pv 5) (fun _ _ => rfl)) pa_nil)))))) (pss_cons (ps_setLc (i := 9) (own := [("kind", 15)]) (tt := tYes) rfl sc_law.nd rfl rfl (sw_true rfl rfl rfl (by decide +kernel)) (pi_list (pv 2)) (blkOk_by (N := ["script", "state", "kinds", "inputs", "rows", "channel", "events", "homes", "models", "outputs", "log", "k", "message", "due", "told", "kind"]) (sc := defScope s_law) (by decide +kernel)) (fun _ _ _ _ _ => (pg_name (i := 15) sc_law.nd rfl (by first | exact Or.inl rfl | exact Or.inr rfl))) (fun _ _ _ _ _ => pts_nil) (fun _ _ _ _ _ => (pe_lst pa_nil))) (pss_cons (ps_set (i := 10) sc_law.nd rfl (by first | exact Or.inl rfl | exact Or.inr rfl) (pe_lst pa_nil)) (pss_cons (ps_for PassesOwn.never rfl (pi_range1 rfl T.n_range (pa_cons (pe_op op_addA pe_int (pe_cal G__law_draw (hr.mono (by walk_at "lev")) rfl (pa_cons (pv 1) (pa_cons pe_int pa_nil)))) pa_nil)) (pg_name (i := 11) sc_law.nd rfl (by first | exact Or.inl rfl | exact Or.inr rfl)) (pss_cons (ps_set (i := 5) sc_law.nd rfl (by first | exact Or.inl rfl | exact Or.inr rfl) (pe_cal G__law_draw (hr.mono (by walk_at "lev")) rfl (pa_cons (pv 1) (pa_cons (pe_callB call_lenA rfl T.n_len (by decide +kernel) (pa_cons (pv 2) pa_nil)) pa_nil)))) (pss_cons (ps_set (i := 12) sc_law.nd rfl (by first | exact Or.inl rfl | exact Or.inr rfl) (pe_cal G__law_message (hr.mono (by walk_at "lev")) rfl (pa_cons (pv 1) (pa_cons (pv 5) (pa_cons (pe_ix ix_seq (pv 2) (pv 5) (fun _ _ => rfl)) (pa_cons (pe_ix ix_seq (pv 8) (pv 5) (fun _ _ => rfl)) pa_nil)))))) (pss_one (ps_if (pt_cmpR op_notN1 (pv 12) pe_non (nomark _)) (pss_cons (ps_set (i := 13) sc_law.nd rfl (by first | exact Or.inl rfl | exact Or.inr rfl) (pe_cal G__law_due (hr.mono (by walk_at "lev")) rfl (pa_cons (pe_ix ix_seq (pv 2) (pv 5) (fun _ _ => rfl)) (pa_cons (pe_ix ix_seq (pv 8) (pv 5) (fun _ _ => rfl)) (pa_cons (pv 12) (pa_cons (pv 10) (pa_cons (pe_ix ix_seq (pv 9) (pv 5) (fun _ _ => rfl)) pa_nil))))))) (pss_cons (ps_set (i := 14) sc_law.nd rfl (by first | exact Or.inl rfl | exact Or.inr rfl) (pe_mtC G_Homes_handle (hr.mono (by walk_at "lev")) (pv 7) (pa_cons (pv 12) pa_nil))) (pss_cons (ps_if (PW.pt (pw_or (pt_not (pt_val (pe_callB call_isi rfl T.n_isinstance (by decide +kernel) (pa_cons (pv 14) (pa_cons (pe_ty (n := "list") rfl T.n_list (by decide +kernel)) pa_nil))))) (pw_or (pt_cmpR (op_neA (hu64 hr)) (pv 14) (pv 13) (nomark _)) (pw_or1 (pt_cmpR (op_neA (hu64 hr)) (pv 6) (pv 10) (nomark _)))))) (pss_one (ps_ret pe_bl)) pss_nil) (pss_one (ps_if (PW.pt (pw_or (pt_cmpR (op_neA (hu64 hr)) (pe_fld (pe_dget (hu_of hr) (pv 4) (pv 5) (fun _ _ => rfl)) rfl) (pe_ix ix_seq (pv 9) (pv 5) (fun _ _ => rfl)) (nomark _)) (pw_or1 (pt_cmpR (op_neA (hu64 hr)) (pe_fld (pe_dget (hu_of hr) (pv 4) (pv 5) (fun _ _ => rfl)) rfl) (pe_ix ix_seq (pv 2) (pv 5) (fun _ _ => rfl)) (nomark _))))) (pss_one (ps_ret pe_bl)) pss_nil))))) pss_nil))))) (pss_one (ps_ret pe_bl))))))))))))), ?_⟩
  try dsimp only [cxOf, Cx.nox]
  repeat' walk_at "st"
  refine c_state hs hl ?_
  intro st c H1 e1 hst hc so
  repeat' walk_at "st"
  obtain ⟨H2, rfl⟩ : ∃ x, x = Hn := ⟨_, rfl⟩
  intro L hL
  have nL : L ∉ [st, c] := st_fresh so hL
  refine lc_range (lo := 0) (n := (1 + dn).toNat) (fun i H' => ∃ kds : List Kd, kds.length = i ∧ Kp [st, c] H2 H' ∧ StOk st c H' ∧ H' L = some (.lst (kds.map fun k => V.str k.s))) ?_ ?_ ?_
  · exact ⟨[], rfl, (Ex.mk hL rfl).kp, st_ex (Ex.mk hL rfl) so, upd_same⟩
  · rintro i H3 hi ⟨kds, lk, k3, so3, h3⟩
    refine ⟨rfl, ?_⟩
    repeat' walk_at "st"
    obtain ⟨k, rfl⟩ : ∃ k : Kd, v = .str k.s := by
      have m := List.mem_of_getElem? ej
      simp only [List.mem_cons, List.not_mem_nil, or_false] at m
      rcases m with rfl | rfl | rfl | rfl
      · exact ⟨.inn, rfl⟩
      · exact ⟨.out, rfl⟩
      · exact ⟨.mid, rfl⟩
      · exact ⟨.mid, rfl⟩
    have h4 : Hn L = some (.lst (kds.map fun k => V.str k.s)) := by walk_at "lift"
    refine ⟨_, h4, sl1000' (by rw [List.length_map]; omega), ?_⟩
    generalize hq : upd Hn L _ = H9
    have k9 := kp_upd h4 hq
    have h9 := at_new hq
    refine ⟨kds ++ [k], by simp [lk], by walk_at "kpx", by walk_at "st_ok", ?_⟩
    rw [h9, List.map_append]
    rfl
  rintro H3 ⟨kds, lk, k3, so3, h3⟩
  have zk : kds.length ≤ 4 := by omega
  repeat' walk_at "st"
  obtain ⟨τ0, ts0, tc0, tL0, tg0'⟩ := tg0 so3 nL (fsome h3)
  intro D hD
  obtain ⟨τ1, le1, tD1, tg1⟩ := tg_new tg0' (al_ex (Ex.mk (o := .lst []) hD rfl)) hD (fsome upd_same) (8, 1)
  refine lc_list (xs := kds.map fun k => V.str k.s) (fun i H' => ∃ (τ : Tau) (ia : Nat → Addr) (ins : Nat → List Int), TgLe τ1 τ ∧ TgOk τ H' ∧ (∀ k, k < i → τ (ia k) = some (0, k)) ∧ Kp [st, c] H3 H' ∧ StOk st c H' ∧ H' D = some (.lst (frow ia i)) ∧
    (∀ k, k < i → H' (ia k) = some (.lst ((ins k).map V.int))) ∧ ∀ k, k < i → (ins k).length ≤ 4 ∧ (kds[k]? ≠ some .inn → ins k = [])) ?_ ?_ ?_ ?_
  · exact ⟨τ1, fun _ => 0, fun _ => [], TgLe.refl _, tg1, fun k hk => absurd hk (Nat.not_lt_zero k), (Ex.mk hD rfl).kp, st_ex (Ex.mk hD rfl) so3, upd_same, fun k hk => absurd hk (Nat.not_lt_zero k), fun k hk => absurd hk (Nat.not_lt_zero k)⟩
  · rintro i H4 _ ⟨τ, ia, ins, le, tg, ti, k4, so4, hD4, hi4, hn4⟩
    exact sql (k4.out _ _ nL h3)
  · rintro i x H4 hx ⟨τ, ia, ins, le, tg, ti, k4, so4, hD4, hi4, hn4⟩
    rw [List.getElem?_map] at hx
    obtain ⟨kd, hkd, rfl⟩ := Option.map_eq_some_iff.mp hx
    have li : i < kds.length := (List.getElem?_eq_some_iff.mp hkd).1
    have ts := le _ _ (le1 _ _ ts0)
    have tc := le _ _ (le1 _ _ tc0)
    have tD := le _ _ tD1
    refine ⟨rfl, ?_⟩
    have fin : ∀ (H5 : Hp) (p : Addr) (ms : List Int), Kp [st, c] H4 H5 → StOk st c H5 → H4 p = none → H5 p = some (.lst (ms.map V.int)) → ms.length ≤ 4 → (kds[i]? ≠ some .inn → ms = []) → ∃ acc, H5 D = some (.lst acc) ∧ acc.length < sizeLine ∧ ∃ (τ : Tau) (ia : Nat → Addr) (ins : Nat → List Int), TgLe τ1 τ ∧ TgOk τ (upd H5 D (.lst (acc ++ [.ref p]))) ∧ (∀ k, k < i + 1 → τ (ia k) = some (0, k)) ∧ Kp [st, c] H3 (upd H5 D (.lst (acc ++ [.ref p]))) ∧ StOk st c (upd H5 D (.lst (acc ++ [.ref p]))) ∧ (upd H5 D (.lst (acc ++ [.ref p]))) D = some (.lst (frow ia (i + 1))) ∧
        (∀ k, k < i + 1 → (upd H5 D (.lst (acc ++ [.ref p]))) (ia k) = some (.lst ((ins k).map V.int))) ∧ ∀ k, k < i + 1 → (ins k).length ≤ 4 ∧ (kds[k]? ≠ some .inn → ins k = []) := by
      intro H5 p ms k5 so5 np hp lm hm
      have hD5 : H5 D = some (.lst (frow ia i)) := by walk_at "lift"
      refine ⟨_, hD5, sl1000' (by rw [frow_len]; omega), ?_⟩
      generalize hq : upd H5 D _ = H9
      have k9 := kp_upd hD5 hq
      have h9 := at_new hq
      have npD : p ≠ D := (ne_of_none hD4 np).symm
      have a9 : Al H4 H9 := (al_st k5 so5).trans (al_kp k9 fun x hx => by rw [List.mem_singleton.mp hx]; exact fsome h9)
      have hp9 : H9 p = some (.lst (ms.map V.int)) := by walk_at "lift"
      obtain ⟨τ', le', tp', tg'⟩ := tg_new tg a9 np (fsome hp9) (0, i)
      refine ⟨τ', fset ia i p, fun k => if k = i then ms else ins k, le.trans le', tg', tg_fam le' ti tp', ?_, ?_, ?_, ?_, ?_⟩
      · have : H3 D = none := hD
        walk_at "kpx"
      · walk_at "st_ok"
      · rw [h9, frow_set]
      · refine fam_step (P := fun k x => H9 x = some (.lst (((fun k => if k = i then ms else ins k) k).map V.int))) (fun k hk => ?_) ?_
        · have tk := ti k hk
          have hk4 := hi4 k hk
          show H9 (ia k) = some (.lst ((if k = i then ms else ins k).map V.int))
          rw [if_neg (by omega)]
          walk_at "lift"
        · show H9 p = some (.lst ((if i = i then ms else ins i).map V.int))
          rw [if_pos rfl]
          exact hp9
      · intro k hk
        by_cases e : k = i
        · subst e
          simp only [if_true]
          exact ⟨lm, hm⟩
        · simp only [if_neg e]
          exact hn4 k (by omega)
    cases kd with
    | inn =>
      simp only [Kd.s]
      repeat' walk_at "st"
      intro L2 hL2
      have nL2 : L2 ∉ [st, c] := st_fresh so hL2
      refine lc_range (lo := 0) (n := dn.toNat) (fun j H' => ∃ ms : List Int, ms.length = j ∧ Kp [st, c] Hn H' ∧ StOk st c H' ∧ H' L2 = some (.lst (ms.map V.int))) ?_ ?_ ?_
      · exact ⟨[], rfl, (Ex.mk hL2 rfl).kp, st_ex (Ex.mk hL2 rfl) so, upd_same⟩
      · obtain ⟨H6, rfl⟩ : ∃ x, x = Hn := ⟨_, rfl⟩
        rintro j H7 hj ⟨ms, lm, k7, so7, h7⟩
        have hj' : j < 4 := by omega
        refine ⟨rfl, ?_⟩
        repeat' walk_at "st"
        have h8 : Hn L2 = some (.lst (ms.map V.int)) := by walk_at "lift"
        refine ⟨_, h8, sl1000' (by rw [List.length_map]; omega), ?_⟩
        generalize hq : upd Hn L2 _ = H9
        have k9 := kp_upd h8 hq
        have h9 := at_new hq
        refine ⟨ms ++ [dn], by simp [lm], by walk_at "kpx", by walk_at "st_ok", ?_⟩
        rw [h9, List.map_append]
        rfl
      · rintro H6 ⟨ms, lm, k6, so6, h6⟩
        exact fin H6 L2 ms (by walk_at "kpx") so6 (by walk_at "frees") h6 (by omega) (fun z => absurd hkd z)
    | out =>
      simp only [Kd.s]
      repeat' walk_at "st"
      exact fin _ p [] (by walk_at "kpx") (by walk_at "st_ok") hp hn (Nat.zero_le _) (fun _ => rfl)
    | mid =>
      simp only [Kd.s]
      repeat' walk_at "st"
      exact fin _ p [] (by walk_at "kpx") (by walk_at "st_ok") hp hn (Nat.zero_le _) (fun _ => rfl)
  rintro H4 ⟨τ, ia, ins, le, tg, ti, k4, so4, hD4, hi4, hn4⟩
  rw [List.length_map] at hD4 hi4 hn4 ti
  have hkd : ∀ i, i < kds.length → kds[i]? = some (kds.getD i .inn) := fun i hi => by
    rw [List.getD_eq_getElem?_getD, List.getElem?_eq_getElem hi]
    rfl
  repeat' walk_at "st"
  obtain ⟨H5, rfl⟩ : ∃ x, x = Hn := ⟨_, rfl⟩
  obtain ⟨R, rfl⟩ : ∃ x, x = p := ⟨_, rfl⟩
  have a5 := al_ex ke
  obtain ⟨τ2, le2, tr2, tg2⟩ := tg_new tg a5 hp (fsome hn) (8, 2)
  refine w_rng (lo := 0) (n := _) (fun i σ H' => ∃ (τ : Tau) (ha da oa la : Nat → Addr) (y5 : Option V), σ = [some (.ref a), some (.ref st), some (.ref L), some (.ref D), some (.ref R), y5, none, none, none, none, none, none, none, none, none, none] ∧ TgLe τ2 τ ∧ TgOk τ H' ∧ (∀ k, k < i → τ (ha k) = some (1, k)) ∧ (∀ k, k < i → τ (oa k) = some (2, k)) ∧ (∀ k, k < i → τ (la k) = some (3, k)) ∧
    Kp [st, c, R] H5 H' ∧ StOk st c H' ∧ H' R = some (.dK (krow ha i)) ∧ ∀ k, k < i → HAt C H' (ha k) (da k) (oa k) (la k) ⟨kds.getD k .inn, none, none, ins k, []⟩) ?_ ?_ ?_
  · exact ⟨τ2, fun _ => 0, fun _ => 0, fun _ => 0, fun _ => 0, none, rfl, TgLe.refl _, tg2, fun k hk => absurd hk (Nat.not_lt_zero k), fun k hk => absurd hk (Nat.not_lt_zero k), fun k hk => absurd hk (Nat.not_lt_zero k), Kp.refl _, by walk_at "st_ok", hn, fun k hk => absurd hk (Nat.not_lt_zero k)⟩
  · rintro i σ H6 hi ⟨τ3, ha, da, oa, la, y5, rfl, le3, tg3, th, to, tl, k6, so6, hp6, hat6⟩
    rw [List.length_map, Int.toNat_natCast] at hi
    have ts := le3 _ _ (le2 _ _ (le _ _ (le1 _ _ ts0)))
    have tc := le3 _ _ (le2 _ _ (le _ _ (le1 _ _ tc0)))
    have tL := le3 _ _ (le2 _ _ (le _ _ (le1 _ _ tL0)))
    have tD := le3 _ _ (le2 _ _ (le _ _ tD1))
    have tp := le3 _ _ tr2
    have ti6 := le3 _ _ (le2 _ _ (ti i hi))
    have hL6 : H6 L = some (HO.lst (List.map (fun k => V.str k.s) kds)) := k6.out _ _ (by walk_at "nin") (by walk_at "lift")
    have hD6 : H6 D = some (.lst (frow ia kds.length)) := k6.out _ _ (by walk_at "nin") (by walk_at "lift")
    have hi6 : H6 (ia i) = some (.lst ((ins i).map V.int)) := k6.out _ _ (by walk_at "nin") (ke _ _ (hi4 i hi))
    have e1 : atI (kds.map fun k => V.str k.s) ((0 : Int) + (i : Int)) = some (.str (kds.getD i .inn).s) := atI_0 (by rw [List.getElem?_map, hkd i hi]; rfl)
    have e2 : atI (frow ia kds.length) ((0 : Int) + (i : Int)) = some (.ref (ia i)) := frow_atI hi
    repeat' walk_at "st"
    refine q_makH (kd := kds.getD i .inn) (ls := ins i) hn (by have := (hn4 i hi).1; omega) (fun H7 h dx o l e7 nh no nl nol hat => ?_)
    repeat' walk_at "st"
    have hR7 : H7 R = some (.dK (krow ha i)) := by walk_at "lift"
    refine q_dputI hR7 (by rw [krow_len]; omega) (fun H8 k8 h8 => ?_)
    rw [krow_put] at h8
    have k68 : Kp [R] H6 H8 := by walk_at "kpx"
    have a8 : Al H6 H8 := al_kp k68 fun x hx => by rw [List.mem_singleton.mp hx]; exact fsome h8
    obtain ⟨ov7, ho7, hof7⟩ := hat.ob
    have noh : o ≠ h := ne_knd hat.os ho7 (by intro z; cases z)
    have nlh : l ≠ h := ne_knd hat.ls ho7 (by intro z; cases z)
    have nRh : h ≠ R := (ne_of_none (ke _ _ hp6) nh).symm
    have nRo : o ≠ R := (ne_of_none (ke _ _ hp6) no).symm
    have nRl : l ≠ R := (ne_of_none (ke _ _ hp6) nl).symm
    have hat8 := hat.kp k8 (nin_c nRh List.not_mem_nil) (nin_c nRo List.not_mem_nil) (nin_c nRl List.not_mem_nil)
    obtain ⟨ov8, ho8, hof8⟩ := hat8.ob
    have f1 := tg3.none (free_back ke nh)
    have f2 := tg3.none (free_back ke no)
    have f3 := tg3.none (free_back ke nl)
    obtain ⟨τ4, le4, t4, tg4, ex4⟩ := tg_add (tg3.al a8) f1 (fsome ho8) (1, i)
    obtain ⟨τ5, le5, t5, tg5, ex5⟩ := tg_add tg4 (ex4 o noh f2) (fsome hat8.os) (2, i)
    obtain ⟨τ6, le6, t6, tg6, ex6⟩ := tg_add tg5 (ex5 l nol.symm (ex4 l nlh f3)) (fsome hat8.ls) (3, i)
    have le36 := le4.trans (le5.trans le6)
    refine ⟨τ6, fset ha i h, fset da i dx, fset oa i o, fset la i l, _, rfl, le3.trans le36, tg6, tg_fam le36 th (le6 _ _ (le5 _ _ t4)), tg_fam le36 to (le6 _ _ t5), tg_fam le36 tl t6, ?_, st_kpx k68 (by walk_at "alln") so6, h8, fun k hk => ?_⟩
    · exact kp_fresh k6 k68 (by walk_at "subf")
    · by_cases cc : k < i
      · rw [fset_lt cc, fset_lt cc, fset_lt cc, fset_lt cc]
        have th' := th k cc
        have to' := to k cc
        have tl' := tl k cc
        exact (hat6 k cc).kp k68 (by walk_at "nin") (by walk_at "nin") (by walk_at "nin")
      · have ek : k = i := by omega
        subst ek
        rw [fset_eq, fset_eq, fset_eq, fset_eq]
        exact hat8
  rintro σ H6 ⟨τ3, ha, da, oa, la, y5, rfl, le3, tg3, th, to, tl, k6, so6, hp6, hat6⟩
  rw [List.length_map, Int.toNat_natCast] at th to tl hp6 hat6
  repeat' walk_at "st"
  obtain ⟨EV, rfl⟩ : ∃ x, x = p := ⟨_, rfl⟩
  have hEV7 := hn
  obtain ⟨τ4, le4, tEV, tg4⟩ := tg_new tg3 (al_ex ke) hp (fsome hn) (6, 0)
  obtain ⟨H7, rfl⟩ : ∃ x, x = Hn := ⟨_, rfl⟩
  refine q_makHs (fun H8 HS dxs e8 nHS h8 => ?_)
  obtain ⟨τ5, le5, tHS, tg5⟩ := tg_new tg4 (al_ex e8) nHS (fsome h8) (8, 3)
  have e68 : Ex H6 H8 := ke.trans e8
  repeat' walk_at "st"
  intro D2 hD2
  obtain ⟨τ6, le6, tD2, z6⟩ := FamG.zero (f := 4) (d := 4) (g := fun k => [V.non, V.non, V.ref (ia k)]) tg5 hD2
  refine lc_range (lo := 0) (n := _) (fun i H' => FamG τ6 4 H8 D2 (fun k => [V.non, V.non, V.ref (ia k)]) i H') z6 ?_ ?_
  · rintro i H9 hi fg
    rw [List.length_map, Int.toNat_natCast] at hi
    refine ⟨rfl, ?_⟩
    have e9 : Ex H8 H9 := by obtain ⟨_, _, _, _, _, z, _⟩ := fg; exact z
    have hD9 : H9 D = some (.lst (frow ia kds.length)) := e9 _ _ (e68 _ _ (k6.out _ _ (by have ts := le3 _ _ (le2 _ _ (le _ _ (le1 _ _ ts0))); have tc := le3 _ _ (le2 _ _ (le _ _ (le1 _ _ tc0))); have tD := le3 _ _ (le2 _ _ (le _ _ tD1)); have tp := le3 _ _ tr2; walk_at "nin") (by walk_at "lift")))
    have e2 : atI (frow ia kds.length) ((0 : Int) + (i : Int)) = some (.ref (ia i)) := frow_atI hi
    repeat' walk_at "st"
    exact FamG.step hD2 tD2 (by decide) fg ke hp hn (by omega)
  rintro H9 fg
  obtain ⟨τ7, ma, le7, tg7, tm, e9, hD29, hm9⟩ := fg
  rw [List.length_map, Int.toNat_natCast] at tm hD29 hm9
  have hL9 : H9 L = some (HO.lst (List.map (fun k => V.str k.s) kds)) := e9 _ _ (e68 _ _ (k6.out _ _ (by have ts := le3 _ _ (le2 _ _ (le _ _ (le1 _ _ ts0))); have tc := le3 _ _ (le2 _ _ (le _ _ (le1 _ _ tc0))); have tL := le3 _ _ (le2 _ _ (le _ _ (le1 _ _ tL0))); have tp := le3 _ _ tr2; walk_at "nin") (by walk_at "lift")))
  repeat' walk_at "st"
  intro D3 hD3
  obtain ⟨τ8, le8, tD3, z8⟩ := FamG.zero (f := 5) (d := 5) (g := fun k => []) tg7 hD3
  refine lc_list (xs := kds.map fun k => V.str k.s) (fun i H' => FamG τ8 5 H9 D3 (fun k => []) i H') z8 ?_ ?_ ?_
  · rintro i H' _ fg
    obtain ⟨_, _, _, _, _, z, _⟩ := fg
    exact sql (z _ _ hL9)
  · rintro i x H10 hx fg
    have hi : i < kds.length := by
      have := (List.getElem?_eq_some_iff.mp hx).1
      rwa [List.length_map] at this
    refine ⟨rfl, ?_⟩
    repeat' walk_at "st"
    exact FamG.step hD3 tD3 (by decide) fg ke hp hn (by omega)
  rintro H10 fg
  obtain ⟨τ9, va, le9, tg9, tv, e10, hD310, hv10⟩ := fg
  rw [List.length_map] at tv hD310 hv10
  repeat' walk_at "st"
  obtain ⟨LG, rfl⟩ : ∃ x, x = p := ⟨_, rfl⟩
  rename_i H11 k11
  have hp11 := hp
  have h11 := hn
  obtain ⟨τz, lez, tLG, tgz⟩ := tg_new tg9 (al_ex k11) hp11 (fsome h11) (6, 1)
  obtain ⟨H12, rfl⟩ : ∃ x, x = Hn := ⟨_, rfl⟩
  have u9 := le9.trans lez
  have u7 := le8.trans u9
  have u5 := le6.trans (le7.trans u7)
  have u3 := le4.trans (le5.trans u5)
  have u2 := le3.trans u3
  have u1 := (le.trans le2).trans u2
  have vst := u1 _ _ (le1 _ _ ts0)
  have vc := u1 _ _ (le1 _ _ tc0)
  have vL := u1 _ _ (le1 _ _ tL0)
  have vD := u1 _ _ tD1
  have vR := u2 _ _ tr2
  have vEV := (le5.trans u5) _ _ tEV
  have vHS := u5 _ _ tHS
  have vD2 := (le7.trans u7) _ _ tD2
  have vD3 := u9 _ _ tD3
  have vi : ∀ k, k < kds.length → τz (ia k) = some (0, k) := fun k hk => (le2.trans u2) _ _ (ti k hk)
  have vh : ∀ k, k < kds.length → τz (ha k) = some (1, k) := fun k hk => u3 _ _ (th k hk)
  have vo : ∀ k, k < kds.length → τz (oa k) = some (2, k) := fun k hk => u3 _ _ (to k hk)
  have vl : ∀ k, k < kds.length → τz (la k) = some (3, k) := fun k hk => u3 _ _ (tl k hk)
  have vm : ∀ k, k < kds.length → τz (ma k) = some (4, k) := fun k hk => u7 _ _ (tm k hk)
  have vv : ∀ k, k < kds.length → τz (va k) = some (5, k) := fun k hk => lez _ _ (tv k hk)
  have e6z : Ex H6 H11 := e68.trans (e9.trans (e10.trans k11))
  have kz : Kp [st, c] H6 H12 := e6z.kp.trans ke
  refine w_rng (lo := 0) (n := _) (fun i σ H' => ∃ (ds : Nat → Ch) (es fs : List V) (lg : List (Int × Int)) (y5 y11 y12 y13 y14 : Option V), σ = [some (.ref a), some (.ref st), some (.ref L), some (.ref D), some (.ref R), y5, some (.ref EV), some (.ref HS), some (.ref D2), some (.ref D3), some (.ref LG), y11, y12, y13, y14, none] ∧ StOk st c H' ∧
    H' L = some (.lst (kds.map fun k => V.str k.s)) ∧ H' R = some (.dK (krow ha kds.length)) ∧ H' HS = some (.ins CS dxs [("rows", .ref R), ("log", .ref EV)]) ∧ H' D2 = some (.lst (frow ma kds.length)) ∧ H' D3 = some (.lst (frow va kds.length)) ∧
    (∀ k, k < kds.length → (ds k).kd = kds.getD k .inn ∧ (ds k).Ok ∧ (ds k).left.length ≤ 4 ∧ (ds k).outs.length ≤ i ∧ HAt C H' (ha k) (da k) (oa k) (la k) (ds k) ∧ MAt H' (ma k) (ia k) (ds k) ∧ H' (va k) = some (.lst ((ds k).outs.map V.int))) ∧
    H' EV = some (.lst es) ∧ H' LG = some (.lst fs) ∧ Tps H' es (lg.map evD) ∧ Tps H' fs (lg.map evD) ∧ lg.length ≤ i) ?_ ?_ ?_
  · refine ⟨fun k => ⟨kds.getD k .inn, none, none, ins k, []⟩, [], [], [], _, _, _, _, _, rfl, so, ?_, ?_, ?_, ?_, ?_, fun k hk => ?_, ?_, ?_, .nil, .nil, Nat.zero_le _⟩
    · exact ke.out _ _ (by walk_at "nin") (k11 _ _ (e10 _ _ hL9))
    · exact kz.out _ _ (by walk_at "nin") hp6
    · exact ke.out _ _ (by walk_at "nin") (k11 _ _ (e10 _ _ (e9 _ _ h8)))
    · exact ke.out _ _ (by walk_at "nin") (k11 _ _ (e10 _ _ hD29))
    · exact ke.out _ _ (by walk_at "nin") (k11 _ _ hD310)
    · have wi := vi k hk
      have wh := vh k hk
      have wo := vo k hk
      have wl := vl k hk
      have wm := vm k hk
      have wv := vv k hk
      obtain ⟨hn4a, hn4b⟩ := hn4 k hk
      refine ⟨rfl, ⟨fun _ => rfl, fun z => hn4b (by rw [hkd k hk]; exact fun y => z (Option.some.inj y)), fun _ => ⟨rfl, rfl⟩⟩, hn4a, Nat.zero_le _, (hat6 k hk).kp kz (by walk_at "nin") (by walk_at "nin") (by walk_at "nin"), ⟨⟨.non, ke.out _ _ (by walk_at "nin") (k11 _ _ (e10 _ _ (hm9 k hk))), rfl⟩, ?_⟩, ke.out _ _ (by walk_at "nin") (k11 _ _ (hv10 k hk))⟩
      refine ke.out _ _ (by walk_at "nin") (e6z _ _ (k6.out _ _ (by walk_at "nin") ?_))
      exact (by assumption : Ex H4 H5) _ _ (hi4 k hk)
    · exact ke.out _ _ (by walk_at "nin") (k11 _ _ (e10 _ _ (e9 _ _ (e8 _ _ hEV7))))
    · exact ke.out _ _ (by walk_at "nin") h11
  · rintro i σ H0 hi ⟨ds, es, fs, lg, y5, y11, y12, y13, y14, rfl, so0, hL0, hR0, hHS0, hD20, hD30, hall, hEV0, hLG0, tes, tfs, zlg⟩
    have hi' : i < 41 := by omega
    repeat' walk_at "st"
    rw [List.length_map] at n1
    obtain ⟨k, rfl⟩ := Int.eq_ofNat_of_zero_le n0
    have hk : k < kds.length := by omega
    obtain ⟨hkd0, hok, hll, hoo, hat, mat, hva⟩ := hall k hk
    have wi := vi k hk
    have wh := vh k hk
    have wo := vo k hk
    have wl := vl k hk
    have wm := vm k hk
    have wv := vv k hk
    have e1 : atI (kds.map fun k => V.str k.s) (k : Int) = some (.str (ds k).kd.s) := atI_nat (by rw [List.getElem?_map, hkd k hk, hkd0]; rfl)
    have e2 : atI (frow ma kds.length) (k : Int) = some (.ref (ma k)) := atI_nat (frow_at hk)
    have e3 : atI (frow va kds.length) (k : Int) = some (.ref (va k)) := atI_nat (frow_at hk)
    obtain ⟨H00, rfl⟩ : ∃ x, x = Hn := ⟨_, rfl⟩
    repeat' walk_at "st"
    have mat1 := mat.kp ke (by walk_at "nin") (by walk_at "nin")
    refine c_lmsg so mat1 hok (by walk_at "nin") (by walk_at "nin") (by omega) (fun H1' kf1 sf1 => ?_) (fun H1' t m kf1 sf1 ht mok => ?_)
    · have kk := ke.trans kf1
      repeat' walk_at "st"
      refine ⟨ds, es, fs, lg, _, _, _, _, _, rfl, sf1, kk.out _ _ (by walk_at "nin") hL0, kk.out _ _ (by walk_at "nin") hR0, kk.out _ _ (by walk_at "nin") hHS0, kk.out _ _ (by walk_at "nin") hD20, kk.out _ _ (by walk_at "nin") hD30, fun j hj => ?_, kk.out _ _ (by walk_at "nin") hEV0, kk.out _ _ (by walk_at "nin") hLG0, tps_kp kk tes, tps_kp kk tfs, Nat.le_succ_of_le zlg⟩
      obtain ⟨a1, a2, a3, a4, a5, a6, a7⟩ := hall j hj
      have wi := vi j hj
      have wh := vh j hj
      have wo := vo j hj
      have wl := vl j hj
      have wm := vm j hj
      have wv := vv j hj
      exact ⟨a1, a2, a3, Nat.le_succ_of_le a4, a5.kp kk (by walk_at "nin") (by walk_at "nin") (by walk_at "nin"), a6.kp kk (by walk_at "nin") (by walk_at "nin"), kk.out _ _ (by walk_at "nin") a7⟩
    · repeat' walk_at "st"
      have kk := ke.trans kf1
      have hat1 := hat.kp kk (by walk_at "nin") (by walk_at "nin") (by walk_at "nin")
      have mat2 := mat.kp kk (by walk_at "nin") (by walk_at "nin")
      have hva1 := kk.out _ _ (by walk_at "nin") hva
      have hLG1 := kk.out _ _ (by walk_at "nin") hLG0
      have hEV1 := kk.out _ _ (by walk_at "nin") hEV0
      have les : es.length ≤ i := by rw [tps_len tes, List.length_map]; exact zlg
      have lfs : fs.length ≤ i := by rw [tps_len tfs, List.length_map]; exact zlg
      refine c_ldue (c := (k : Int)) mat2 hok mok ht hLG1 hva1 (by walk_at "ne1") (by walk_at "ne1") (by walk_at "ne1") (by walk_at "ne1") (by walk_at "ne1") (by walk_at "ne1") (by omega) (by omega) (fun H2' p1 xs1 es1 k2 np1 hp1 t1 mat3 hva3 hLG3 tl1 => ?_)
      obtain ⟨ov1, hob1, hof1⟩ := hat1.ob
      have hos1 := hat1.os
      have hls1 := hat1.ls
      have hHS1 := kk.out _ _ (by walk_at "nin") hHS0
      have hR1 := kk.out _ _ (by walk_at "nin") hR0
      have hat2 := hat1.kp k2 (by walk_at "nin") (by walk_at "nin") (by walk_at "nin")
      have hHS2 := k2.out _ _ (by walk_at "nin") hHS1
      have hR2 := k2.out _ _ (by walk_at "nin") hR1
      have hEV2 := k2.out _ _ (by walk_at "nin") hEV1
      have np1h : p1 ∉ [ha k, oa k, la k, EV] := nin_c (ne_of_none hob1 np1).symm (nin_c (ne_of_none hos1 np1).symm (nin_c (ne_of_none hls1 np1).symm (nin_c (ne_of_none hEV1 np1).symm List.not_mem_nil)))
      repeat' walk_at "st"
      refine c_handle (c := (k : Int)) hHS2 hR2 (by rw [krow_find, if_pos hk]) mok hok (k2.tup _ _ ht) hat2 hEV2 (by walk_at "ne1") (by walk_at "ne1") (by walk_at "ne1") (by omega) (by omega) (fun H3' p2 xs2 es2 k3 np2 hp2 t2 hat3 hEV3 tl2 => ?_)
      have hp13 := k3.out _ _ np1h hp1
      have mat4 := mat3.kp k3 (by walk_at "nin") (by walk_at "nin")
      have hva4 := k3.out _ _ (by walk_at "nin") hva3
      have hLG4 := k3.out _ _ (by walk_at "nin") hLG3
      have hR3 := k3.out _ _ (by walk_at "nin") hR2
      obtain ⟨ov3, hob3, hof3⟩ := hat3.ob
      simp only [hfl] at hob3
      have kall : Kp [st, c, ma k, ia k, LG, va k, ha k, oa k, la k, EV] H0 H3' := by
        refine (kk.sub fun x hx => ?_).trans ((k2.sub fun x hx => ?_).trans (k3.sub fun x hx => ?_))
        · simp only [List.mem_cons, List.not_mem_nil, or_false] at hx ⊢
          rcases hx with h | h <;> simp [h]
        · simp only [List.mem_cons, List.not_mem_nil, or_false] at hx ⊢
          rcases hx with h | h | h | h <;> simp [h]
        · simp only [List.mem_cons, List.not_mem_nil, or_false] at hx ⊢
          rcases hx with h | h | h | h <;> simp [h]
      have tev : Tps H3' (es ++ es2) ((lg ++ logd k (ds k) m).map evD) := by
        rw [List.map_append]
        exact tps_app (tps_kp kall tes) tl2
      have tlg : Tps H3' (fs ++ es1) ((lg ++ logd k (ds k) m).map evD) := by
        rw [List.map_append]
        exact tps_app (tps_kp kall tfs) (tps_kp k3 tl1)
      repeat' walk_at "st"
      refine fq_neDat (.lst (sql hp2) (tps_dp t2)) (.lst (sql hp13) (tps_dp (tps_kp k3 t1))) ans_lay ans_depth ?_
      repeat' walk_at "st"
      refine fq_neDat (.lst (sql hEV3) (tps_dp tev)) (.lst (sql hLG4) (tps_dp tlg)) ev_lay ev_depth ?_
      repeat' walk_at "st"
      refine q_dgetI hR3 (by rw [krow_find, if_pos hk]) ?_
      have hD33 : H3' D3 = some (.lst (frow va kds.length)) := kall.out _ _ (by walk_at "nin") hD30
      have hL3 : H3' L = some (.lst (kds.map fun k => V.str k.s)) := kall.out _ _ (by walk_at "nin") hL0
      have e1' : atI (kds.map fun k => V.str k.s) (k : Int) = some (.str (stp (ds k) m).kd.s) := by rw [stp_kd]; exact e1
      repeat' walk_at "st"
      refine fq_neInts hat3.os hva4 ?_
      repeat' walk_at "st"
      refine q_dgetI hR3 (by rw [krow_find, if_pos hk]) ?_
      repeat' walk_at "st"
      have so3' : StOk st c H3' := st_kpx k3 (by walk_at "alln") (st_kpx k2 (by walk_at "alln") sf1)
      have le1' := logd_len (c := (k : Int)) (d := ds k) (m := m)
      refine ⟨fun j => if j = k then stp (ds k) m else ds j, es ++ es2, fs ++ es1, lg ++ logd k (ds k) m, _, _, _, _, _, rfl, so3', hL3, hR3, kall.out _ _ (by walk_at "nin") hHS0, kall.out _ _ (by walk_at "nin") hD20, hD33, fun j hj => ?_, hEV3, hLG4, tev, tlg, by rw [List.length_append]; omega⟩
      by_cases cj : j = k
      · subst cj
        simp only [if_true]
        exact ⟨stp_kd.trans hkd0, stp_ok hok mok, Nat.le_trans stp_left hll, Nat.le_trans stp_outs (Nat.succ_le_succ hoo), hat3, mat4, hva4⟩
      · simp only [if_neg cj]
        obtain ⟨a1, a2, a3, a4, a5, a6, a7⟩ := hall j hj
        have xi := vi j hj
        have xh := vh j hj
        have xo := vo j hj
        have xl := vl j hj
        have xm := vm j hj
        have xv := vv j hj
        exact ⟨a1, a2, a3, Nat.le_succ_of_le a4, a5.kp kall (by walk_at "nin") (by walk_at "nin") (by walk_at "nin"), a6.kp kall (by walk_at "nin") (by walk_at "nin"), kall.out _ _ (by walk_at "nin") a7⟩
  · rintro σ H0 ⟨ds, es, fs, lg, y5, y11, y12, y13, y14, rfl, so0, hL0, hR0, hHS0, hD20, hD30, hall, hEV0, hLG0, tes, tfs, zlg⟩
    repeat' walk_at "st"
    exact q _
theorem build_law {C_Home C_Homes : Addr} {fd : FuncData} {fa : Addr} (F : Fun K "law" "law" s_law fa fd) (T : Glo K w mg) (D_offer : Dn K mg "offer" s_offer p_offer) (D_ask : Dn K mg "ask" s_ask p_ask) (D_offered : Dn K mg "offered" s_offered p_offered) (D_accept : Dn K mg "accept" s_accept p_accept) (D_cancel : Dn K mg "cancel" s_cancel p_cancel) (D__law_state : Dn K mg "_law_state" s__law_state p__law_state) (D__law_draw : Dn K mg "_law_draw" s__law_draw p__law_draw) (D__law_pick : Dn K mg "_law_pick" s__law_pick p__law_pick) (D__law_message : Dn K mg "_law_message" s__law_message p__law_message) (D__law_due : Dn K mg "_law_due" s__law_due p__law_due) (D_Home___init__ : DnI K mg "Home" "Home.__init__" C_Home s_Home___init__ p_Home___init__) (D_Home_offer_next : DnM K C_Home "offer_next" "Home.offer_next" s_Home_offer_next p_Home_offer_next) (D_Homes___init__ : DnI K mg "Homes" "Homes.__init__" C_Homes s_Homes___init__ p_Homes___init__) (D_Homes_handle : DnM K C_Homes "handle" "Homes.handle" s_Homes_handle p_Homes_handle) (W : HmK K C_Home) (WS : HsK K C_Homes) (FD : Msgs K w mg) : FnOk P w K mg base CX0 6 fa fd ["script"] (sp_law K) := by
  have dr := ok_draw (P := P) (w := w) (base := base) T D__law_draw
  have pi := ok_pick T D__law_pick dr
  have nx := ok_next (P := P) (w := w) (base := base) T W D_Home_offer_next
  have hi := ok_hinit T W D_Home___init__ nx
  have hs := ok_hsinit (P := P) (w := w) (base := base) T WS D_Homes___init__
  have od := ok_offered (P := P) (w := w) (base := base) T W D_offered
  have a1 := ok_offer T W D_offer od
  have a2 := ok_ask T W D_ask od
  have a3 := ok_accept T W D_accept nx
  have a4 := ok_cancel (P := P) (w := w) (base := base) T W D_cancel
  have hd := ok_handle T WS FD D_Homes_handle a1 a2 a3 a4
  have lm := ok_lmsg T D__law_message dr pi
  have ld := ok_ldue (P := P) (w := w) (base := base) T D__law_due
  exact body_law (F := F) T (ok_state T D__law_state) dr pi hi hs W WS lm ld hd
theorem dn_mk {h : Heap} {x : Str} {st : Stmt} {ps : List Str} {f : Addr} {oc : Value} {od an : Option Addr} {osl : Array (Option Value)} {kV doc pm cdv ct : Value} (X : K.In h) (G : h.Ns mainGlobals mg) (a : PySem.W.nsIn K mainGlobals x = some (some (.ref f)))
    (l : K.lookup f = some ⟨oc, od, .func (PySem.W.fnOf x x (defArgs st) (defBody st) (defScope st) .none kV doc pm an cdv ct), osl⟩) (c : PySem.W.codeIn K cdv x = true) (k : PySem.W.keepIn K (.ref f) = true)
    (hb : ∀ (kV doc pm : Value) (an : Option Addr) (cdv ct : Value) (us : List Value), us.length = ps.length → bindArgs (PySem.W.fnOf x x (defArgs st) (defBody st) (defScope st) .none kV doc pm an cdv ct) ⟨us, []⟩ = pure (ps.zip us)) : Dn K mg x st ps :=
  ⟨f, _, fun_mk l c k, PySem.W.mg_of X G a, (fun_mk l c k).binds hb⟩
theorem all_mk {l : PySem.W.OpenLaw} {w : World} {K : PySem.W.Frag} {h : Heap} {mg : Str → Option Value} {fa : Addr} (X : K.In h) (G : h.Ns mainGlobals mg) (hfa : mg "law" = some (.ref fa))
    {f0 : Addr} {od0 an0 : Option Addr} {sl0 : Array (Option Value)} {oc0 kV0 dc0 pm0 cd0 ct0 : Value}
    {f1 : Addr} {od1 an1 : Option Addr} {sl1 : Array (Option Value)} {oc1 kV1 dc1 pm1 cd1 ct1 : Value}
    {f2 : Addr} {od2 an2 : Option Addr} {sl2 : Array (Option Value)} {oc2 kV2 dc2 pm2 cd2 ct2 : Value}
    {f3 : Addr} {od3 an3 : Option Addr} {sl3 : Array (Option Value)} {oc3 kV3 dc3 pm3 cd3 ct3 : Value}
    {f4 : Addr} {od4 an4 : Option Addr} {sl4 : Array (Option Value)} {oc4 kV4 dc4 pm4 cd4 ct4 : Value}
    {f5 : Addr} {od5 an5 : Option Addr} {sl5 : Array (Option Value)} {oc5 kV5 dc5 pm5 cd5 ct5 : Value}
    {f6 : Addr} {od6 an6 : Option Addr} {sl6 : Array (Option Value)} {oc6 kV6 dc6 pm6 cd6 ct6 : Value}
    {f7 : Addr} {od7 an7 : Option Addr} {sl7 : Array (Option Value)} {oc7 kV7 dc7 pm7 cd7 ct7 : Value}
    {f8 : Addr} {od8 an8 : Option Addr} {sl8 : Array (Option Value)} {oc8 kV8 dc8 pm8 cd8 ct8 : Value}
    {f9 : Addr} {od9 an9 : Option Addr} {sl9 : Array (Option Value)} {oc9 kV9 dc9 pm9 cd9 ct9 : Value}
    {f10 : Addr} {od10 an10 : Option Addr} {sl10 : Array (Option Value)} {oc10 kV10 dc10 pm10 cd10 ct10 : Value}
    {C_Home : Addr}
    {f_Home___init__ : Addr} {od_Home___init__ an_Home___init__ : Option Addr} {sl_Home___init__ : Array (Option Value)} {oc_Home___init__ kV_Home___init__ dc_Home___init__ pm_Home___init__ cd_Home___init__ ct_Home___init__ : Value}
    {f_Home_offer_next : Addr} {od_Home_offer_next an_Home_offer_next : Option Addr} {sl_Home_offer_next : Array (Option Value)} {oc_Home_offer_next kV_Home_offer_next dc_Home_offer_next pm_Home_offer_next cd_Home_offer_next ct_Home_offer_next : Value}
    {C_Homes : Addr}
    {f_Homes___init__ : Addr} {od_Homes___init__ an_Homes___init__ : Option Addr} {sl_Homes___init__ : Array (Option Value)} {oc_Homes___init__ kV_Homes___init__ dc_Homes___init__ pm_Homes___init__ cd_Homes___init__ ct_Homes___init__ : Value}
    {f_Homes_handle : Addr} {od_Homes_handle an_Homes_handle : Option Addr} {sl_Homes_handle : Array (Option Value)} {oc_Homes_handle kV_Homes_handle dc_Homes_handle pm_Homes_handle cd_Homes_handle ct_Homes_handle : Value}
    (a0 : PySem.W.nsIn K mainGlobals "offer" = some (some (.ref f0))) (l0 : K.lookup f0 = some ⟨oc0, od0, .func (PySem.W.fnOf "offer" "offer" (defArgs s_offer) (defBody s_offer) (defScope s_offer) .none kV0 dc0 pm0 an0 cd0 ct0), sl0⟩) (c0 : PySem.W.codeIn K cd0 "offer" = true) (k0 : PySem.W.keepIn K (.ref f0) = true)
    (a1 : PySem.W.nsIn K mainGlobals "ask" = some (some (.ref f1))) (l1 : K.lookup f1 = some ⟨oc1, od1, .func (PySem.W.fnOf "ask" "ask" (defArgs s_ask) (defBody s_ask) (defScope s_ask) .none kV1 dc1 pm1 an1 cd1 ct1), sl1⟩) (c1 : PySem.W.codeIn K cd1 "ask" = true) (k1 : PySem.W.keepIn K (.ref f1) = true)
    (a2 : PySem.W.nsIn K mainGlobals "offered" = some (some (.ref f2))) (l2 : K.lookup f2 = some ⟨oc2, od2, .func (PySem.W.fnOf "offered" "offered" (defArgs s_offered) (defBody s_offered) (defScope s_offered) .none kV2 dc2 pm2 an2 cd2 ct2), sl2⟩) (c2 : PySem.W.codeIn K cd2 "offered" = true) (k2 : PySem.W.keepIn K (.ref f2) = true)
    (a3 : PySem.W.nsIn K mainGlobals "accept" = some (some (.ref f3))) (l3 : K.lookup f3 = some ⟨oc3, od3, .func (PySem.W.fnOf "accept" "accept" (defArgs s_accept) (defBody s_accept) (defScope s_accept) .none kV3 dc3 pm3 an3 cd3 ct3), sl3⟩) (c3 : PySem.W.codeIn K cd3 "accept" = true) (k3 : PySem.W.keepIn K (.ref f3) = true)
    (a4 : PySem.W.nsIn K mainGlobals "cancel" = some (some (.ref f4))) (l4 : K.lookup f4 = some ⟨oc4, od4, .func (PySem.W.fnOf "cancel" "cancel" (defArgs s_cancel) (defBody s_cancel) (defScope s_cancel) .none kV4 dc4 pm4 an4 cd4 ct4), sl4⟩) (c4 : PySem.W.codeIn K cd4 "cancel" = true) (k4 : PySem.W.keepIn K (.ref f4) = true)
    (a5 : PySem.W.nsIn K mainGlobals "_law_state" = some (some (.ref f5))) (l5 : K.lookup f5 = some ⟨oc5, od5, .func (PySem.W.fnOf "_law_state" "_law_state" (defArgs s__law_state) (defBody s__law_state) (defScope s__law_state) .none kV5 dc5 pm5 an5 cd5 ct5), sl5⟩) (c5 : PySem.W.codeIn K cd5 "_law_state" = true) (k5 : PySem.W.keepIn K (.ref f5) = true)
    (a6 : PySem.W.nsIn K mainGlobals "_law_draw" = some (some (.ref f6))) (l6 : K.lookup f6 = some ⟨oc6, od6, .func (PySem.W.fnOf "_law_draw" "_law_draw" (defArgs s__law_draw) (defBody s__law_draw) (defScope s__law_draw) .none kV6 dc6 pm6 an6 cd6 ct6), sl6⟩) (c6 : PySem.W.codeIn K cd6 "_law_draw" = true) (k6 : PySem.W.keepIn K (.ref f6) = true)
    (a7 : PySem.W.nsIn K mainGlobals "_law_pick" = some (some (.ref f7))) (l7 : K.lookup f7 = some ⟨oc7, od7, .func (PySem.W.fnOf "_law_pick" "_law_pick" (defArgs s__law_pick) (defBody s__law_pick) (defScope s__law_pick) .none kV7 dc7 pm7 an7 cd7 ct7), sl7⟩) (c7 : PySem.W.codeIn K cd7 "_law_pick" = true) (k7 : PySem.W.keepIn K (.ref f7) = true)
    (a8 : PySem.W.nsIn K mainGlobals "_law_message" = some (some (.ref f8))) (l8 : K.lookup f8 = some ⟨oc8, od8, .func (PySem.W.fnOf "_law_message" "_law_message" (defArgs s__law_message) (defBody s__law_message) (defScope s__law_message) .none kV8 dc8 pm8 an8 cd8 ct8), sl8⟩) (c8 : PySem.W.codeIn K cd8 "_law_message" = true) (k8 : PySem.W.keepIn K (.ref f8) = true)
    (a9 : PySem.W.nsIn K mainGlobals "_law_due" = some (some (.ref f9))) (l9 : K.lookup f9 = some ⟨oc9, od9, .func (PySem.W.fnOf "_law_due" "_law_due" (defArgs s__law_due) (defBody s__law_due) (defScope s__law_due) .none kV9 dc9 pm9 an9 cd9 ct9), sl9⟩) (c9 : PySem.W.codeIn K cd9 "_law_due" = true) (k9 : PySem.W.keepIn K (.ref f9) = true)
    (a10 : PySem.W.nsIn K mainGlobals "law" = some (some (.ref f10))) (l10 : K.lookup f10 = some ⟨oc10, od10, .func (PySem.W.fnOf "law" "law" (defArgs s_law) (defBody s_law) (defScope s_law) .none kV10 dc10 pm10 an10 cd10 ct10), sl10⟩) (c10 : PySem.W.codeIn K cd10 "law" = true) (k10 : PySem.W.keepIn K (.ref f10) = true)
    (aC_Home : PySem.W.nsIn K mainGlobals "Home" = some (some (.ref C_Home))) (pg_Home : PySem.W.plainGet K C_Home Str.empty = true) (hd_Home : PySem.W.hasDictIn K C_Home = true) (po_Home : PySem.W.plainOver K C_Home = true) (sa_Home : PySem.W.findIn K (.ref C_Home) "__setattr__" = some (some (.builtin "object.__setattr__"))) (mk_Home : PySem.W.makesIn K C_Home = true) (kc_Home : PySem.W.keepIn K (.ref C_Home) = true)
    (na_Home_kind : PySem.W.findIn K (.ref C_Home) "kind" = some none)
    (na_Home_outputs : PySem.W.findIn K (.ref C_Home) "outputs" = some none)
    (na_Home_left : PySem.W.findIn K (.ref C_Home) "left" = some none)
    (na_Home_offer : PySem.W.findIn K (.ref C_Home) "offer" = some none)
    (na_Home_asker : PySem.W.findIn K (.ref C_Home) "asker" = some none)
    (a_Home___init__ : PySem.W.findIn K (.ref C_Home) "__init__" = some (some (.ref f_Home___init__))) (i_Home___init__ : PySem.W.isFn K (.ref f_Home___init__) = true) (l_Home___init__ : K.lookup f_Home___init__ = some ⟨oc_Home___init__, od_Home___init__, .func (PySem.W.fnOf "__init__" "Home.__init__" (defArgs s_Home___init__) (defBody s_Home___init__) (defScope s_Home___init__) .none kV_Home___init__ dc_Home___init__ pm_Home___init__ an_Home___init__ cd_Home___init__ ct_Home___init__), sl_Home___init__⟩) (c_Home___init__ : PySem.W.codeIn K cd_Home___init__ "Home.__init__" = true) (k_Home___init__ : PySem.W.keepIn K (.ref f_Home___init__) = true)
    (a_Home_offer_next : PySem.W.findIn K (.ref C_Home) "offer_next" = some (some (.ref f_Home_offer_next))) (i_Home_offer_next : PySem.W.isFn K (.ref f_Home_offer_next) = true) (l_Home_offer_next : K.lookup f_Home_offer_next = some ⟨oc_Home_offer_next, od_Home_offer_next, .func (PySem.W.fnOf "offer_next" "Home.offer_next" (defArgs s_Home_offer_next) (defBody s_Home_offer_next) (defScope s_Home_offer_next) .none kV_Home_offer_next dc_Home_offer_next pm_Home_offer_next an_Home_offer_next cd_Home_offer_next ct_Home_offer_next), sl_Home_offer_next⟩) (c_Home_offer_next : PySem.W.codeIn K cd_Home_offer_next "Home.offer_next" = true) (k_Home_offer_next : PySem.W.keepIn K (.ref f_Home_offer_next) = true)
    (aC_Homes : PySem.W.nsIn K mainGlobals "Homes" = some (some (.ref C_Homes))) (pg_Homes : PySem.W.plainGet K C_Homes Str.empty = true) (hd_Homes : PySem.W.hasDictIn K C_Homes = true) (po_Homes : PySem.W.plainOver K C_Homes = true) (sa_Homes : PySem.W.findIn K (.ref C_Homes) "__setattr__" = some (some (.builtin "object.__setattr__"))) (mk_Homes : PySem.W.makesIn K C_Homes = true) (kc_Homes : PySem.W.keepIn K (.ref C_Homes) = true)
    (na_Homes_rows : PySem.W.findIn K (.ref C_Homes) "rows" = some none)
    (na_Homes_log : PySem.W.findIn K (.ref C_Homes) "log" = some none)
    (a_Homes___init__ : PySem.W.findIn K (.ref C_Homes) "__init__" = some (some (.ref f_Homes___init__))) (i_Homes___init__ : PySem.W.isFn K (.ref f_Homes___init__) = true) (l_Homes___init__ : K.lookup f_Homes___init__ = some ⟨oc_Homes___init__, od_Homes___init__, .func (PySem.W.fnOf "__init__" "Homes.__init__" (defArgs s_Homes___init__) (defBody s_Homes___init__) (defScope s_Homes___init__) .none kV_Homes___init__ dc_Homes___init__ pm_Homes___init__ an_Homes___init__ cd_Homes___init__ ct_Homes___init__), sl_Homes___init__⟩) (c_Homes___init__ : PySem.W.codeIn K cd_Homes___init__ "Homes.__init__" = true) (k_Homes___init__ : PySem.W.keepIn K (.ref f_Homes___init__) = true)
    (a_Homes_handle : PySem.W.findIn K (.ref C_Homes) "handle" = some (some (.ref f_Homes_handle))) (i_Homes_handle : PySem.W.isFn K (.ref f_Homes_handle) = true) (l_Homes_handle : K.lookup f_Homes_handle = some ⟨oc_Homes_handle, od_Homes_handle, .func (PySem.W.fnOf "handle" "Homes.handle" (defArgs s_Homes_handle) (defBody s_Homes_handle) (defScope s_Homes_handle) .none kV_Homes_handle dc_Homes_handle pm_Homes_handle an_Homes_handle cd_Homes_handle ct_Homes_handle), sl_Homes_handle⟩) (c_Homes_handle : PySem.W.codeIn K cd_Homes_handle "Homes.handle" = true) (k_Homes_handle : PySem.W.keepIn K (.ref f_Homes_handle) = true)
    (z_n_len : PySem.W.nsIn K mainGlobals "len" = some none) (z_n_int : PySem.W.nsIn K mainGlobals "int" = some none) (z_n_abs : PySem.W.nsIn K mainGlobals "abs" = some none) (z_n_range : PySem.W.nsIn K mainGlobals "range" = some none) (z_n_list : PySem.W.nsIn K mainGlobals "list" = some none) (z_n_isinstance : PySem.W.nsIn K mainGlobals "isinstance" = some none) {a_MESSAGES : Addr} {es_MESSAGES : Array DictEntry} {n_MESSAGES : Nat} (z_MESSAGES : PySem.W.nsIn K mainGlobals "MESSAGES" = some (some (.ref a_MESSAGES))) (zl_MESSAGES : K.lookup a_MESSAGES = some ⟨.type "dict", none, .dict es_MESSAGES n_MESSAGES, #[]⟩) (zy_MESSAGES : PySem.W.KeysLit w.params es_MESSAGES.toList) (z0_MESSAGES : PySem.W.nsIn K a_MESSAGES "offer" = some (some (.ref f0))) (z1_MESSAGES : PySem.W.nsIn K a_MESSAGES "ask" = some (some (.ref f1))) (z2_MESSAGES : PySem.W.nsIn K a_MESSAGES "accept" = some (some (.ref f3))) (z3_MESSAGES : PySem.W.nsIn K a_MESSAGES "cancel" = some (some (.ref f4))) :
    ∃ fd : FuncData, (∀ (s : Shared) (v : Value), BindsTo s fd ⟨[v], []⟩ [("script", v)]) ∧ ∀ base : Heap, K.In base → base.Ns mainGlobals mg → FnOk l.prog w K mg base CX0 6 fa fd ["script"] (sp_law K) := by
  have e := hfa.symm.trans (PySem.W.mg_of X G a10)
  cases e
  have FL := fun_mk (st := s_law) l10 c10 k10
  have D_offer : Dn K mg "offer" s_offer p_offer := dn_mk X G a0 l0 c0 k0 (fun _ _ _ _ _ _ us hl => match us, hl with | [_, _, _], _ => rfl)
  have D_ask : Dn K mg "ask" s_ask p_ask := dn_mk X G a1 l1 c1 k1 (fun _ _ _ _ _ _ us hl => match us, hl with | [_, _, _], _ => rfl)
  have D_offered : Dn K mg "offered" s_offered p_offered := dn_mk X G a2 l2 c2 k2 (fun _ _ _ _ _ _ us hl => match us, hl with | [_, _], _ => rfl)
  have D_accept : Dn K mg "accept" s_accept p_accept := dn_mk X G a3 l3 c3 k3 (fun _ _ _ _ _ _ us hl => match us, hl with | [_, _, _], _ => rfl)
  have D_cancel : Dn K mg "cancel" s_cancel p_cancel := dn_mk X G a4 l4 c4 k4 (fun _ _ _ _ _ _ us hl => match us, hl with | [_, _, _], _ => rfl)
  have D__law_state : Dn K mg "_law_state" s__law_state p__law_state := dn_mk X G a5 l5 c5 k5 (fun _ _ _ _ _ _ us hl => match us, hl with | [_], _ => rfl)
  have D__law_draw : Dn K mg "_law_draw" s__law_draw p__law_draw := dn_mk X G a6 l6 c6 k6 (fun _ _ _ _ _ _ us hl => match us, hl with | [_, _], _ => rfl)
  have D__law_pick : Dn K mg "_law_pick" s__law_pick p__law_pick := dn_mk X G a7 l7 c7 k7 (fun _ _ _ _ _ _ us hl => match us, hl with | [_, _], _ => rfl)
  have D__law_message : Dn K mg "_law_message" s__law_message p__law_message := dn_mk X G a8 l8 c8 k8 (fun _ _ _ _ _ _ us hl => match us, hl with | [_, _, _, _], _ => rfl)
  have D__law_due : Dn K mg "_law_due" s__law_due p__law_due := dn_mk X G a9 l9 c9 k9 (fun _ _ _ _ _ _ us hl => match us, hl with | [_, _, _, _, _], _ => rfl)
  have CL_Home : Cls K C_Home := ⟨pg_Home, hd_Home, po_Home, sa_Home⟩
  have F_Home___init__ := fun_mk (st := s_Home___init__) l_Home___init__ c_Home___init__ k_Home___init__
  have b_Home___init__ := F_Home___init__.binds (ps := p_Home___init__) fun _ _ _ _ _ _ us hl => match us, hl with | [_, _, _], _ => rfl
  have D_Home___init__ : DnI K mg "Home" "Home.__init__" C_Home s_Home___init__ p_Home___init__ := ⟨_, _, ⟨mk_Home, a_Home___init__, i_Home___init__, kc_Home⟩, F_Home___init__, PySem.W.mg_of X G aC_Home, b_Home___init__⟩
  have F_Home_offer_next := fun_mk (st := s_Home_offer_next) l_Home_offer_next c_Home_offer_next k_Home_offer_next
  have b_Home_offer_next := F_Home_offer_next.binds (ps := p_Home_offer_next) fun _ _ _ _ _ _ us hl => match us, hl with | [_], _ => rfl
  have D_Home_offer_next : DnM K C_Home "offer_next" "Home.offer_next" s_Home_offer_next p_Home_offer_next := ⟨_, _, CL_Home, ⟨a_Home_offer_next, i_Home_offer_next, k_Home_offer_next⟩, F_Home_offer_next, b_Home_offer_next⟩
  have X_Home := (⟨CL_Home, na_Home_kind, na_Home_outputs, na_Home_left, na_Home_offer, na_Home_asker⟩ : HmK K C_Home)
  have CL_Homes : Cls K C_Homes := ⟨pg_Homes, hd_Homes, po_Homes, sa_Homes⟩
  have F_Homes___init__ := fun_mk (st := s_Homes___init__) l_Homes___init__ c_Homes___init__ k_Homes___init__
  have b_Homes___init__ := F_Homes___init__.binds (ps := p_Homes___init__) fun _ _ _ _ _ _ us hl => match us, hl with | [_, _, _], _ => rfl
  have D_Homes___init__ : DnI K mg "Homes" "Homes.__init__" C_Homes s_Homes___init__ p_Homes___init__ := ⟨_, _, ⟨mk_Homes, a_Homes___init__, i_Homes___init__, kc_Homes⟩, F_Homes___init__, PySem.W.mg_of X G aC_Homes, b_Homes___init__⟩
  have F_Homes_handle := fun_mk (st := s_Homes_handle) l_Homes_handle c_Homes_handle k_Homes_handle
  have b_Homes_handle := F_Homes_handle.binds (ps := p_Homes_handle) fun _ _ _ _ _ _ us hl => match us, hl with | [_, _], _ => rfl
  have D_Homes_handle : DnM K C_Homes "handle" "Homes.handle" s_Homes_handle p_Homes_handle := ⟨_, _, CL_Homes, ⟨a_Homes_handle, i_Homes_handle, k_Homes_handle⟩, F_Homes_handle, b_Homes_handle⟩
  have X_Homes := (⟨CL_Homes, na_Homes_rows, na_Homes_log⟩ : HsK K C_Homes)
  have FD_MESSAGES : Msgs K w mg := ⟨⟨_, _, PySem.W.mg_of X G z_MESSAGES, ⟨_, _, _, zl_MESSAGES, zy_MESSAGES, z0_MESSAGES, rfl⟩, PySem.W.mg_of X G a0⟩, ⟨_, _, PySem.W.mg_of X G z_MESSAGES, ⟨_, _, _, zl_MESSAGES, zy_MESSAGES, z1_MESSAGES, rfl⟩, PySem.W.mg_of X G a1⟩, ⟨_, _, PySem.W.mg_of X G z_MESSAGES, ⟨_, _, _, zl_MESSAGES, zy_MESSAGES, z2_MESSAGES, rfl⟩, PySem.W.mg_of X G a3⟩, ⟨_, _, PySem.W.mg_of X G z_MESSAGES, ⟨_, _, _, zl_MESSAGES, zy_MESSAGES, z3_MESSAGES, rfl⟩, PySem.W.mg_of X G a4⟩⟩
  have T : Glo K w mg := ⟨PySem.W.mg_none_of X G z_n_len, PySem.W.mg_none_of X G z_n_int, PySem.W.mg_none_of X G z_n_abs, PySem.W.mg_none_of X G z_n_range, PySem.W.mg_none_of X G z_n_list, PySem.W.mg_none_of X G z_n_isinstance⟩
  refine ⟨PySem.W.fnOf "law" "law" (defArgs s_law) (defBody s_law) (defScope s_law) .none kV10 dc10 pm10 an10 cd10 ct10, fun s v => .of_eq rfl, fun base _ _ => ?_⟩
  exact build_law FL T D_offer D_ask D_offered D_accept D_cancel D__law_state D__law_draw D__law_pick D__law_message D__law_due D_Home___init__ D_Home_offer_next D_Homes___init__ D_Homes_handle X_Home X_Homes FD_MESSAGES
theorem walk {l : PySem.W.OpenLaw} {q : Program} {loose : List Str} {XP : (Str → Option Value) → Heap → Prop} {YP : World → Heap → Prop} {d : DefRec} {K : Params → PySem.W.Frag} (hn : l.most = some 63) (hdf : d.params.defaults = [])
    (hY : ∀ (w : World) (h : Heap), YP w h → (K w.params).In h)
    (F : ∀ (w : World) (mg : Str → Option Value) (fa : Addr) (h : Heap), (K w.params).In h → h.Ns mainGlobals mg → mg d.name = some (.ref fa) →
      ∃ fd : FuncData, (∀ (s : Shared) (u : Value), BindsTo s fd ⟨[u], []⟩ [("script", u)]) ∧ ∀ base : Heap, (K w.params).In base → base.Ns mainGlobals mg → FnOk l.prog w (K w.params) mg base CX0 6 fa fd ["script"] (sp_law (K w.params))) :
    PySem.W.WalkO q loose XP YP l.row.toRowW d [] (fun f vs => PySem.call f vs) :=
  L2.walk_of (n := 63) (k := 6) (x := "script") (CX := fun _ => CX0) (sp := fun w => sp_law (K w.params)) hn (by decide) hdf ⟨rfl, by decide, by decide⟩ hY F (fun _ _ a ns hl _ hS => ⟨a, ns, rfl, hS, hl, fun _ => rfl⟩) fun _ _ _ _ _ z => z
end Y
open PySem PySem.W PyProof.Rows
set_option maxRecDepth 100000 in
set_option maxHeartbeats 0 in
theorem PySem.Challenge.cw_placedanyhow_k46_homes_of_channels_holds : PySem.Challenge.rw_placedanyhow_k46_homes_of_channels.Holds := by
  w_on; o_law; k_head; (case hw => w_witness2)
  k_fill
  refine Y.walk (l := PySem.Challenge.rw_placedanyhow_k46_homes_of_channels) rfl rfl (fun w h Y => PySem.W.kIn_of Y) ?F
  case F =>
    intro w mg fa h KX G hmg
    refine' Y.all_mk KX G hmg ?a0 ?l0 ?c0 ?k0 ?a1 ?l1 ?c1 ?k1 ?a2 ?l2 ?c2 ?k2 ?a3 ?l3 ?c3 ?k3 ?a4 ?l4 ?c4 ?k4 ?a5 ?l5 ?c5 ?k5 ?a6 ?l6 ?c6 ?k6 ?a7 ?l7 ?c7 ?k7 ?a8 ?l8 ?c8 ?k8 ?a9 ?l9 ?c9 ?k9 ?a10 ?l10 ?c10 ?k10 ?aC_Home ?pg_Home ?hd_Home ?po_Home ?sa_Home ?mk_Home ?kc_Home ?na_Home_kind ?na_Home_outputs ?na_Home_left ?na_Home_offer ?na_Home_asker ?a_Home___init__ ?i_Home___init__ ?l_Home___init__ ?c_Home___init__ ?k_Home___init__ ?a_Home_offer_next ?i_Home_offer_next ?l_Home_offer_next ?c_Home_offer_next ?k_Home_offer_next ?aC_Homes ?pg_Homes ?hd_Homes ?po_Homes ?sa_Homes ?mk_Homes ?kc_Homes ?na_Homes_rows ?na_Homes_log ?a_Homes___init__ ?i_Homes___init__ ?l_Homes___init__ ?c_Homes___init__ ?k_Homes___init__ ?a_Homes_handle ?i_Homes_handle ?l_Homes_handle ?c_Homes_handle ?k_Homes_handle ?z_n_len ?z_n_int ?z_n_abs ?z_n_range ?z_n_list ?z_n_isinstance ?z_MESSAGES ?zl_MESSAGES ?zy_MESSAGES ?z0_MESSAGES ?z1_MESSAGES ?z2_MESSAGES ?z3_MESSAGES
    (case a0 => k_is); (case l0 => k_is); (case c0 => k_is); (case k0 => k_is)
    (case a1 => k_is); (case l1 => k_is); (case c1 => k_is); (case k1 => k_is)
    (case a2 => k_is); (case l2 => k_is); (case c2 => k_is); (case k2 => k_is)
    (case a3 => k_is); (case l3 => k_is); (case c3 => k_is); (case k3 => k_is)
    (case a4 => k_is); (case l4 => k_is); (case c4 => k_is); (case k4 => k_is)
    (case a5 => k_is); (case l5 => k_is); (case c5 => k_is); (case k5 => k_is)
    (case a6 => k_is); (case l6 => k_is); (case c6 => k_is); (case k6 => k_is)
    (case a7 => k_is); (case l7 => k_is); (case c7 => k_is); (case k7 => k_is)
    (case a8 => k_is); (case l8 => k_is); (case c8 => k_is); (case k8 => k_is)
    (case a9 => k_is); (case l9 => k_is); (case c9 => k_is); (case k9 => k_is)
    (case a10 => k_is); (case l10 => k_is); (case c10 => k_is); (case k10 => k_is)
    (case aC_Home => k_is)
    (case pg_Home => k_is)
    (case hd_Home => k_is)
    (case po_Home => k_is)
    (case sa_Home => k_is)
    (case mk_Home => k_is)
    (case kc_Home => k_is)
    (case na_Home_kind => k_is)
    (case na_Home_outputs => k_is)
    (case na_Home_left => k_is)
    (case na_Home_offer => k_is)
    (case na_Home_asker => k_is)
    (case a_Home___init__ => k_is)
    (case i_Home___init__ => k_is)
    (case l_Home___init__ => k_is)
    (case c_Home___init__ => k_is)
    (case k_Home___init__ => k_is)
    (case a_Home_offer_next => k_is)
    (case i_Home_offer_next => k_is)
    (case l_Home_offer_next => k_is)
    (case c_Home_offer_next => k_is)
    (case k_Home_offer_next => k_is)
    (case aC_Homes => k_is)
    (case pg_Homes => k_is)
    (case hd_Homes => k_is)
    (case po_Homes => k_is)
    (case sa_Homes => k_is)
    (case mk_Homes => k_is)
    (case kc_Homes => k_is)
    (case na_Homes_rows => k_is)
    (case na_Homes_log => k_is)
    (case a_Homes___init__ => k_is)
    (case i_Homes___init__ => k_is)
    (case l_Homes___init__ => k_is)
    (case c_Homes___init__ => k_is)
    (case k_Homes___init__ => k_is)
    (case a_Homes_handle => k_is)
    (case i_Homes_handle => k_is)
    (case l_Homes_handle => k_is)
    (case c_Homes_handle => k_is)
    (case k_Homes_handle => k_is)
    (case z_n_len => k_is)
    (case z_n_int => k_is)
    (case z_n_abs => k_is)
    (case z_n_range => k_is)
    (case z_n_list => k_is)
    (case z_n_isinstance => k_is)
    (case z_MESSAGES => k_is)
    (case zl_MESSAGES => k_is)
    (case zy_MESSAGES => k_keys)
    (case z0_MESSAGES => k_is)
    (case z1_MESSAGES => k_is)
    (case z2_MESSAGES => k_is)
    (case z3_MESSAGES => k_is)
#print axioms PySem.Challenge.cw_placedanyhow_k46_homes_of_channels_holds
