import PyProof.Rows.All
import Wide.All
import OpenK.AllK
import Wide.FinOn
import PyProof.EqAt
import PyProof.EqKinds
import PyProof.TupleCall
import Open.SpecLaws
import KE.OsGo
import HandS.ForMost
import HandS.ForSpec
import HandS.Walk
import HandS.StrMore
import HandS.ExcInit
import HandS.ExcField
import HandS.FStr
import HandS.WideBits
import HandS.CallSlots
import HandS.TupSets
import KE.GoesEnum
import KE.DataMinKey
import HandS.SortKw
import HandS.DictTup
import HandS.SortOrd
import HandS.ListItems
import HandS.SetFor
import HandS.Strs
import KE.DataMinMax
import KE.IntTextLaws
import PySem.Challenge.RW_bestkept_s01_answers
set_option Elab.async false
set_option linter.all false
set_option maxRecDepth 100000
set_option maxHeartbeats 4000000
section
namespace Bk
open PySem PySem.Spec PyProof.Rows L2
/-- the i-th statement of the program -/
def top (i : Nat) : Stmt := PySem.Challenge.pw_bestkept_s01_answers.main.body.getD i (.Pass ⟨0, 0, 0, 0⟩)
/-- a def at the top, called x, the i-th statement, with these parameters -/
def HasDef (K : PySem.W.Frag) (mg : Str → Option Value) (x : Str) (i : Nat) (ps : List Str) : Prop :=
  ∃ f fd, mg x = some (.ref f) ∧ Fun K x x (top i) f fd ∧ Binds K fd ps []
/-- such a def keeps its promise -/
def DefOk (P : Program) (w : World) (K : PySem.W.Frag) (mg : Str → Option Value) (base : Heap) (CX : CXT) (k : Nat) (x : Str) (ps : List Str) (sp : Sp) : Prop :=
  ∃ f fd, mg x = some (.ref f) ∧ PySem.W.keepIn K (.ref f) = true ∧ Binds K fd ps [] ∧ FnOk P w K mg base CX k f fd ps sp
section
variable {P : Program} {w : World} {K : PySem.W.Frag} {mg : Str → Option Value} {base : Heap}
theorem DefOk.make {x : Str} {i : Nat} {N ps : List Str} {k : Nat} {sp : Sp} (D : HasDef K mg x i ps) (S : FnScope N ps (defScope (top i))) (len : ∀ vs H Q E, sp vs H Q E → vs.length = ps.length)
    (hbody : ∀ (f : Addr) (cdv : Value) (A : Around) (outer : List Env) (s : Shared) (H : Hp) (vs : List V) (Q : VK) (E : XK), Room k (A.deeper (envOfC x (defScope (top i)) s.heap.objs.size f cdv)) → sp vs H Q E →
      ∃ t, PSs (cxOf CX0 P w K mg base N x (defScope (top i)) f cdv A outer s H E).nox (defBody (top i)) t ∧ t { nx := fun _ H' => Q .non H', rt := Q } (start N vs) H) : DefOk P w K mg base CX0 (k + 1) x ps sp := by
  obtain ⟨f, fd, g, F, b⟩ := D
  exact ⟨f, fd, g, F.kp, b, F.ok S len (hbody f)⟩
theorem DefOk.makeX {x : Str} {i : Nat} {N ps : List Str} {k : Nat} {sp : Sp} (D : HasDef K mg x i ps) (S : FnScope N ps (defScope (top i))) (len : ∀ vs H Q E, sp vs H Q E → vs.length = ps.length)
    (hbody : ∀ (f : Addr) (cdv : Value) (A : Around) (outer : List Env) (s : Shared) (H : Hp) (vs : List V) (Q : VK) (E : XK), Room k (A.deeper (envOfC x (defScope (top i)) s.heap.objs.size f cdv)) → sp vs H Q E →
      ∃ t, PSs (cxOf (L2.CX P w) P w K mg base N x (defScope (top i)) f cdv A outer s H E) (defBody (top i)) t ∧ t { nx := fun _ H' => Q .non H', rt := Q } (start N vs) H) : DefOk P w K mg base (L2.CX P w) (k + 1) x ps sp := by
  obtain ⟨f, fd, g, F, b⟩ := D
  exact ⟨f, fd, g, F.kp, b, F.okX S len (hbody f)⟩
end
end Bk
end
section
/-! readings, step by step -/
namespace Bk
open PySem PySem.Spec PyProof.Rows L2
section
variable {K : PySem.W.Frag} {σ : L2.St} {H H' : Hp} {i : Nat} {v x y : V} {ta tb te tv : TE} {tt uu : TT} {tA tB' : TA} {Q : VK} {D : Ends} {t u : TS} {r : R2} {a b C dx p : Addr} {fs : List (Str × V)} {f : Str} {xs : List V}
theorem rd_var (h : σ[i]? = some (some v)) (q : Q v H) : tVar i σ H Q := ⟨v, h, q⟩
theorem rd_c (q : Q v H) : tC v σ H Q := q
theorem rd_op (q : ta σ H fun x H1 => tb σ H1 fun y H2 => r x y H2 Q) : tOp r ta tb σ H Q := q
theorem rd_un {r : V → Hp → VK → Prop} (q : ta σ H fun x H1 => r x H1 Q) : tUn r ta σ H Q := q
theorem rd_I0 {g : Int → Int → V} {m n : Int} (q : Q (g m n) H) : rI0 g (.int m) (.int n) H Q := ⟨m, n, rfl, rfl, q⟩
theorem rd_I {Cn : Int → Int → Prop} {g : Int → Int → V} {m n : Int} (c : Cn m n) (q : Q (g m n) H) : rI Cn g (.int m) (.int n) H Q := ⟨m, n, rfl, rfl, c, q⟩
theorem rd_U {g : Int → V} {m : Int} (q : Q (g m) H) : rU g (.int m) H Q := ⟨m, rfl, q⟩
theorem rd_eq (s : scal x y = true) (q : Q (.bl (decide (x = y))) H) : rEq x y H Q := ⟨s, q⟩
theorem rd_ne (s : scal x y = true) (q : Q (.bl (!decide (x = y))) H) : rNe x y H Q := ⟨s, q⟩
theorem rd_test {Q : Bool → Hp → Prop} (q : te σ H fun x H' => ∃ k, x = .bl k ∧ Q k H') : tTest te σ H Q := q
theorem rd_tB {Q : Bool → Hp → Prop} (q : te σ H fun x H' => ∃ k, x = .bl k ∧ Q k H') : tB te σ H Q := q
theorem rd_bl {c : Bool} {Q : Bool → Prop} (q : Q c) : ∃ k, V.bl c = .bl k ∧ Q k := ⟨c, rfl, q⟩
theorem rd_isN (q : ta σ H fun x H1 => Q (.bl (decide (x = .non))) H1) : tIsN ta σ H Q := q
theorem rd_notN (q : ta σ H fun x H1 => Q (.bl (!decide (x = .non))) H1) : tNotN ta σ H Q := q
theorem rd_and {Q : Bool → Hp → Prop} (q : tt σ H fun c H1 => if c = true then uu σ H1 Q else Q false H1) : tAnd tt uu σ H Q := q
theorem rd_or {Q : Bool → Hp → Prop} (q : tt σ H fun c H1 => if c = true then Q true H1 else uu σ H1 Q) : tOr tt uu σ H Q := q
theorem rd_not {Q : Bool → Hp → Prop} (q : tt σ H fun c H1 => Q (!c) H1) : tNot tt σ H Q := q
theorem rd_andV (q : ta σ H fun x H1 => ∃ c, x = .bl c ∧ if c = true then tb σ H1 Q else Q (.bl false) H1) : tAndV ta tb σ H Q := q
theorem rd_ifE (q : tt σ H fun c H1 => if c = true then ta σ H1 Q else tb σ H1 Q) : tIf tt ta tb σ H Q := q
theorem rd_seq (q : t { D with nx := u D } σ H) : tSeq t u D σ H := q
theorem rd_next (q : D.nx σ H) : tNext D σ H := q
theorem rd_brk (q : D.bk σ H) : tBreak D σ H := q
theorem rd_asg {g : TG} (q : te σ H fun x H1 => g x σ H1 D.nx) : tAsg te g D σ H := q
theorem rd_nm {Q : L2.St → Hp → Prop} (q : Q (σ.set i (some v)) H) : gName i v σ H Q := q
theorem rd_ret (q : te σ H D.rt) : tRet te D σ H := q
theorem rd_drop (q : te σ H fun _ H1 => D.nx σ H1) : tDrop te D σ H := q
theorem rd_if {tc : TT} (q : tc σ H fun b H1 => if b = true then t D σ H1 else u D σ H1) : tIfS tc t u D σ H := q
theorem rd_aug {ti : TIp} (h : σ[i]? = some (some x)) (q : te σ H fun y H1 => ti x y H1 fun z H2 => D.nx (σ.set i (some z)) H2) : tAug i te ti D σ H := ⟨x, h, q⟩
theorem rd_ipI {g : Int → Int → Int} {m n : Int} (q : Q (.int (g m n)) H) : ipI g (.int m) (.int n) H Q := ⟨m, n, rfl, rfl, q⟩
theorem rd_nil {Q : List V → Hp → Prop} (q : Q [] H) : tNil σ H Q := q
theorem rd_cons {Q : List V → Hp → Prop} (q : ta σ H fun x H1 => tA σ H1 fun xs H2 => Q (x :: xs) H2) : tCons ta tA σ H Q := q
theorem rd_tup (q : tA σ H fun xs H1 => xs.length ≤ sizeLine ∧ ∀ p, H1 p = none → Q (.ref p) (upd H1 p (.tup xs))) : tTup tA σ H Q := q
theorem rd_lst (q : tA σ H fun xs H1 => xs.length ≤ sizeLine ∧ ∀ p, H1 p = none → Q (.ref p) (upd H1 p (.lst xs))) : tLst tA σ H Q := q
theorem rd_CB {r : List V → Hp → VK → Prop} (q : tA σ H fun vs H1 => r vs H1 Q) : tCB r tA σ H Q := q
theorem rd_call {sp : Sp} {dvs : List V} {E : XK} (q : tA σ H fun vs H1 => sp (vs ++ dvs) H1 Q E) : tCall sp dvs E tA σ H Q := q
theorem rd_callS {sp : Sp} {E : L2.St → XK} (q : tA σ H fun vs H1 => sp vs H1 Q (E σ)) : tCallS sp E tA σ H Q := q
theorem rd_fld (q : ta σ H fun x H1 => ∃ a C dx fs v, x = .ref a ∧ H1 a = some (.ins C dx fs) ∧ Cls K C ∧ NoAttr K C f ∧ fs.lookup f = some v ∧ Q v H1) : tFld K ta f σ H Q := q
theorem rd_fldAt {R : V → Prop} (h : H a = some (.ins C dx fs)) (c : Cls K C) (n : NoAttr K C f) (l : fs.lookup f = some v) (q : R v) :
    ∃ a' C dx fs v, V.ref a = .ref a' ∧ H a' = some (.ins C dx fs) ∧ Cls K C ∧ NoAttr K C f ∧ fs.lookup f = some v ∧ R v := ⟨a, C, dx, fs, v, rfl, h, c, n, l, q⟩
theorem rd_sfld (q : tv σ H fun y H1 => ta σ H1 fun x H2 => ∃ a C dx fs, x = .ref a ∧ H2 a = some (.ins C dx fs) ∧ Cls K C ∧ NoAttr K C f ∧ fs.length < 1000 ∧ D.nx σ (upd H2 a (.ins C dx (putF f y fs)))) : sFld K ta tv f D σ H := q
theorem rd_sfldAt {W : L2.St → Hp → Prop} {y : V} (h : H a = some (.ins C dx fs)) (c : Cls K C) (n : NoAttr K C f) (l : fs.length < 1000) (q : W σ (upd H a (.ins C dx (putF f y fs)))) :
    ∃ a' C dx fs, V.ref a = .ref a' ∧ H a' = some (.ins C dx fs) ∧ Cls K C ∧ NoAttr K C f ∧ fs.length < 1000 ∧ W σ (upd H a' (.ins C dx (putF f y fs))) := ⟨a, C, dx, fs, rfl, h, c, n, l, q⟩
theorem rd_BM {T : String} {r : V → List V → Hp → VK → Prop} (q : ta σ H fun x H1 => tyV K T x H1 ∧ tA σ H1 fun xs H2 => r x xs H2 Q) : tBM K T r ta tA σ H Q := q
theorem rd_BM0 {T : String} {r : V → List V → Hp → VK → Prop} (q : ta σ H fun x H1 => tyV K T x H1 ∧ r x [] H1 Q) : tBM0 K T r ta σ H Q := q
theorem rd_for {wi : TI} {g : TG} (q : wi σ H fun J H1 => ∃ W : Nat → Nat → L2.St → Hp → Prop, (∃ m, W 0 m σ H1) ∧ ∀ i m σ H, W i m σ H →
      (J.stop i H ∧ D.nx σ H) ∨ (J.go i H ∧ ∃ N : L2.St → Hp → Prop, (∀ σ' H', N σ' H' → ∃ m', m' < m ∧ W (i + 1) m' σ' H') ∧ ∀ x H', J.yld i H x H' → g x σ H' fun σ2 H2 => t { D with nx := N, ct := N, bk := D.nx } σ2 H2)) : tFor wi g t D σ H := q
theorem rd_ite {c : Prop} [Decidable c] {A B : Prop} (h1 : c → A) (h2 : ¬ c → B) : if decide c = true then A else B := by
  by_cases h : c
  · rw [decide_eq_true h]; exact iteT (h1 h)
  · rw [decide_eq_false h]; exact iteF (h2 h)
theorem rd_iteN {c : Prop} [Decidable c] {A B : Prop} (h1 : ¬ c → A) (h2 : c → B) : if (!decide c) = true then A else B := by
  by_cases h : c
  · rw [decide_eq_true h]; exact iteF (h2 h)
  · rw [decide_eq_false h]; exact iteT (h1 h)
theorem rd_iteB {c : Bool} {A B : Prop} (h1 : c = true → A) (h2 : c = false → B) : if c = true then A else B := by
  cases c with
  | true => exact iteT (h1 rfl)
  | false => exact iteF (h2 rfl)
theorem rd_yes {c : Prop} [Decidable c] {A B : Prop} (h : c) (q : A) : if decide c = true then A else B := by rw [decide_eq_true h]; exact iteT q
theorem rd_no {c : Prop} [Decidable c] {A B : Prop} (h : ¬ c) (q : B) : if decide c = true then A else B := by rw [decide_eq_false h]; exact iteF q
end
section
variable {K : PySem.W.Frag} {σ : L2.St} {H : Hp} {v x y : V} {ta tb te tv td ty tx' : TE} {tA : TA} {Q : VK} {D : Ends} {R : It → Hp → Prop}
theorem rd_iStr (q : te σ H fun v H1 => ∃ x, v = .str x ∧ R (Its x) H1) : iStr te σ H R := q
theorem rd_iList (q : te σ H fun x H1 => ∃ a, x = .ref a ∧ (∃ xs, SqL K H1 a xs) ∧ R (Itl K a) H1) : iList K te σ H R := q
theorem rd_iTup (q : te σ H fun x H1 => ∃ a, x = .ref a ∧ (∃ xs, SqT K H1 a xs) ∧ R (Itt K a) H1) : iTup K te σ H R := q
theorem rd_iRng1 (q : tA σ H fun vs H1 => ∃ j : Int, vs = [.int j] ∧ -(2 ^ 62) ≤ j ∧ j < 2 ^ 62 ∧ R (Itr 0 j.toNat) H1) : iRng1 tA σ H R := q
theorem rd_iEnum (q : tA σ H fun vs H1 => ∃ a xs, vs = [.ref a] ∧ SqL K H1 a xs ∧ R (Ite K a) H1) : iEnum K tA σ H R := q
theorem rd_iZip (q : tA σ H fun vs H1 => ∃ a b xs ys, vs = [.ref a, .ref b] ∧ SqL K H1 a xs ∧ SqL K H1 b ys ∧ R (Itz K a b) H1) : iZip K tA σ H R := q
theorem rd_lc {wi : TI} {g : TG} {tt : TT} {own : List Nat} (q : wi σ H fun J G => ∀ L, G L = none → ∃ Z : Nat → Nat → Hp → Prop, (∃ n, Z 0 n (upd G L (.lst []))) ∧ ∀ k n F, Z k n F →
      (J.stop k F ∧ Q (.ref L) F) ∨ (J.go k F ∧ ∃ Y : Hp → Prop, (∀ F', Y F' → ∃ n', n' < n ∧ Z (k + 1) n' F') ∧ ∀ it F', J.yld k F it F' → g it (wipe σ own) F' fun τ F2 =>
        wipe τ own = wipe σ own ∧ tt τ F2 fun yes F3 => if yes = true then te τ F3 fun u F4 => ∃ got, F4 L = some (.lst got) ∧ got.length < sizeLine ∧ Y (upd F4 L (.lst (got ++ [u]))) else Y F3)) : tLc wi g tt te own σ H Q := q
theorem rd_yes' {Q : Bool → Hp → Prop} (q : Q true H) : tYes σ H Q := q
theorem rd_js {t : TE} {ts : List TE} {acc : Str} {Q : Str → Hp → Prop} (q : t σ H fun x G => ∃ y : Str, x = .str y ∧ (acc ++ y).length ≤ sizeLine ∧ tJs ts (acc ++ y) σ G Q) : tJs (t :: ts) acc σ H Q := q
theorem rd_js0 {acc : Str} {Q : Str → Hp → Prop} (q : Q acc H) : tJs [] acc σ H Q := q
theorem rd_fmt (q : te σ H fun x G => (∃ y : Str, x = .str y ∧ y.length ≤ sizeLine ∧ Q (.str y) G) ∨ ∃ i : Int, x = .int i ∧ i.natAbs.log2 < 1920 ∧ Q (.str (toString i)) G) : tFmt te σ H Q := q
theorem rd_fmtI {n : Int} {A : Str → Prop} (l : n.natAbs.log2 < 1920) (q : Q (.str (toString n)) H) : (∃ y : Str, V.int n = .str y ∧ A y) ∨ ∃ i : Int, V.int n = .int i ∧ i.natAbs.log2 < 1920 ∧ Q (.str (toString i)) H := .inr ⟨n, rfl, l, q⟩
theorem rd_fmtS {z : Str} {A : Int → Prop} (l : z.length ≤ sizeLine) (q : Q (.str z) H) : (∃ y : Str, V.str z = .str y ∧ y.length ≤ sizeLine ∧ Q (.str y) H) ∨ ∃ i : Int, V.str z = .int i ∧ A i := .inl ⟨z, rfl, l, q⟩
theorem rd_mkO {C : Addr} {sp : Sp} {dvs : List V} {Q : XK} (q : tA σ H fun vs G => vs.length ≤ 1000 ∧ ∀ e, G e = none → sp (.ref e :: (vs ++ dvs)) (upd G e (exo e C none))
  (fun v F => v = .non ∧ ∃ (d : Addr) (fs : List (Str × V)), F e = some (exo e C (some d)) ∧ F d = some (exd d fs) ∧ G d = none ∧ Q (.ref C) (some d) (upd (del F e) d (.xd fs))) (fun _ _ _ => False)) : tMkO C sp dvs tA σ H Q := q
theorem rd_fldaug {f : Str} {rr : V → V → Hp → VK → Prop} (q : ta σ H fun x G => ∃ a C dx fs v, x = .ref a ∧ G a = some (.ins C dx fs) ∧ Cls K C ∧ NoAttr K C f ∧ fs.lookup f = some v ∧
  tv σ G fun y F => rr v y F fun z F' => ∃ dx' fs', F' a = some (.ins C dx' fs') ∧ fs'.length < 1000 ∧ D.nx σ (upd F' a (.ins C dx' (putF f z fs')))) : sFldAug K ta tv rr f D σ H := q
theorem rd_M1 {r : V → List V → Hp → VK → Prop} (q : ta σ H fun x H1 => (∃ a, x = .str a) ∧ te σ H1 fun y H2 => r x [y] H2 Q) : tM1 r ta te σ H Q := q
theorem rd_dget2 (q : td σ H fun x H1 => ∃ a, x = .ref a ∧ IsD H1 a ∧ ty σ H1 fun y H2 => tx' σ H2 fun z H3 => ∃ o, DGet H3 a y o ∧ Q (o.getD z) H3) : tDGet2 td ty tx' σ H Q := q
theorem rd_dput (q : tv σ H fun v H1 => td σ H1 fun x H2 => ty σ H2 fun y H3 => ∃ a H4, x = .ref a ∧ DPut H3 a y v H4 ∧ D.nx σ H4) : sDPut td ty tv D σ H := q
theorem rd_sl {r : V → Option Int → Option Int → Hp → VK → Prop} {tl th : TO} (q : te σ H fun x H1 => tl σ H1 fun l H2 => th σ H2 fun u H3 => r x l u H3 Q) : tSl r te tl th σ H Q := q
theorem rd_noPart {Q : Option Int → Hp → Prop} (q : Q none H) : tNoPart σ H Q := q
theorem rd_part {Q : Option Int → Hp → Prop} (q : te σ H fun x H1 => ∃ i, x = .int i ∧ Q (some i) H1) : tPart te σ H Q := q
theorem rd_int {P : Int → Prop} {n : Int} (q : P n) : ∃ i, V.int n = .int i ∧ P i := ⟨n, rfl, q⟩
theorem rd_str {P : Str → Prop} {n : Str} (q : P n) : ∃ i, V.str n = .str i ∧ P i := ⟨n, rfl, q⟩
theorem rd_isstr {n : Str} {A : Prop} (q : A) : (∃ i, V.str n = .str i) ∧ A := ⟨⟨n, rfl⟩, q⟩
theorem rd_make {C : Addr} {sp : Sp} {dvs : List V} {E : XK} (q : tA σ H fun vs H1 => ∀ x dx, H1 x = none → H1 dx = none → dx ≠ x → sp (.ref x :: (vs ++ dvs)) (upd (upd H1 dx (.own x)) x (.ins C dx [])) (fun v H2 => v = .non ∧ Q (.ref x) H2) E) : tMake C sp dvs E tA σ H Q := q
theorem rd_meth {C : Addr} {m : Str} {sp : Sp} {dvs : List V} {E : XK} (q : ta σ H fun x H1 => ∃ a dx fs, x = .ref a ∧ H1 a = some (.ins C dx fs) ∧ fs.lookup m = none ∧ tA σ H1 fun vs H2 => sp (x :: (vs ++ dvs)) H2 Q E) : tMeth C m sp dvs E ta tA σ H Q := q
end
/-! rules whose reading names the written part as a letter: within a comprehension -/
section
variable {X : Cx} {K : PySem.W.Frag}
theorem pe_fldK {e : Expr} {f : Str} {pos : Pos} {ta : TE} (hK : X.K = K) (he : PE X e ta) (hb : attributeBase e f X.env (eval e X.env) = eval e X.env) : PE X (.Attribute e f pos) (tFld K ta f) := by
  subst hK
  exact pe_fld he hb
theorem ix_listK (hK : X.K = K) : IxR X (rIxL K) := by
  subst hK
  exact ix_list
theorem ix_tupK (hK : X.K = K) : IxR X (rIxT K) := by
  subst hK
  exact ix_tup
theorem op_in_seqK (hK : X.K = K) : OpR X (compareOp .In) (rIn K false) := by
  subst hK
  exact op_in_seq
theorem op_notIn_seqK (hK : X.K = K) : OpR X (compareOp .NotIn) (rIn K true) := by
  subst hK
  exact op_notIn_seq
theorem pg_tupK {es : List Expr} {k n : Nat} {pos : Pos} {t : TGs} (hK : X.K = K) (hc : X.calm = true) (h : PGs X es t) (hn : (assignEach es X.env).length = n := by rfl) (hst : (assignEach es X.env).findIdx? (·.1) = none := by rfl) : PG X (.Tuple es k pos) (gTup K n t) := by
  subst hK
  exact pg_tup hc h hn hst
end
end Bk
end
section
/-! an own error class right under Exception, whose __init__ calls Exception.__init__ and sets fields -/
namespace Bk
open PySem PySem.Spec PyProof.Rows L2
abbrev exTail : List Value := [.type "Exception", .type "BaseException", .type "object"]
theorem exTail_pass (self : Value) (c : Addr) : PySem.refuseLoop self "__setattr__" (.ref c :: exTail) = pure () := by
  rw [refuseLoop_ref]
  exact F.store_Exception.passes self
theorem exTail_has (c : Addr) (n : String) : (Value.ref c :: exTail).contains (.type n) = exTail.contains (.type n) := by
  rw [List.contains_cons]; rfl
/-- what the written part says of the class at C -/
structure ErrC (K : PySem.W.Frag) (C : Addr) : Prop where
  cl : ∃ nm q N bs sn sub ab col dd k0 k1 k2 k3 k5, K.lookup C = some (excClassObj nm q C N bs exTail true sn sub ab col dd k0 k1 k2 k3 k5 "Exception.__new__")
  setA : PySem.W.findIn K (.ref C) "__setattr__" = some (some (.builtin "object.__setattr__"))
  isX : PySem.W.subIn K (.ref C) (.type "BaseException") = some true
  isT : PySem.W.typeIn K (.ref C) = some (.type "type")
  kept : PySem.W.keepIn K (.ref C) = true
section
variable {prog : Program} {w : World} {A : Around} {E : Value → Shared → Prop} {R : Result → Shared → Prop} {hp : Heap} {g : Array GenState} {dr : Drawn} {t : Nat} {os : OsState}
open Builtin Builtin.ObjectAttr
theorem typ_exc : typeOf (.type "Exception") = pure (.type "type") := by kernel_rfl
/-- the first attribute of such an error -/
theorem first_attr {K : W.Frag} {fld : Str} {tk : Tok} {v : Value} {e C : Addr} {fv : Array Value} {cdt : ClassData} (kin : K.In hp) (he : hp.get? e = some { cls := .ref C, data := .fields fv })
    (hcdt : W.clsIn K C = some cdt) (hmro : cdt.mro = .ref C :: exTail) (hdct : cdt.hasDict = true) (hno : W.findIn K (.ref C) fld = some none)
    (next : ∀ h' tk' dx, (∀ b o, b ≠ e → hp.get? b = some o → h'.get? b = some o) → hp.objs.size ≤ dx → dx ≠ e → h'.get? e = some { cls := .ref C, dict := some dx, data := .fields fv } →
      h'.Ns1 dx (fun y => if y = fld then some v else none) → R (.ok (.ret .none)) ⟨h', g, dr, tk', os⟩) :
    codeAny (model prog w) A (.call (.builtin "object.__setattr__") ⟨[.ref e, .str fld tk, v], []⟩) R ⟨hp, g, dr, t, os⟩ := by
  have inst : W.InstAt hp e { cls := .ref C, data := .fields fv } C none := ⟨he, rfl, rfl, trivial⟩
  have sf := F.store_object
  have full : cdt.mro.isEmpty = false := by rw [hmro]; rfl
  have isObj : cdt.mro.contains (.type "object") = true := by rw [hmro, exTail_has]; decide +kernel
  have apart : e ≠ hp.objs.size := Nat.ne_of_lt (Heap.lt_size he)
  have lookObj : W.Looks (model prog w) hp (isInstance (.ref e) (.type "object")) true :=
    inst.type.andThen (W.looks_mroIn kin (by unfold W.mroIn; rw [hcdt, Option.bind_some, if_neg (by rw [full]; decide), isObj]))
  refine codeAny_call_builtin sf.slot.plain sf.entry (@W.check_slot (model prog w) _ _ ⟨hp, g, dr, t, os⟩ "object.__setattr__" "object" "__setattr__" (.ref e) [.str fld tk, v] [] _ sf.kind sf.split lookObj (sf.args (.ref e) (.str fld tk) v) ?_)
  have lookMro : W.Looks (model prog w) hp (mroOf (.ref C)) cdt.mro := (W.looks_clsIn kin hcdt).andThen .now
  have lookTaker : W.Looks (model prog w) hp (storeTaker? none) none := .now
  have lookCls : W.Looks (model prog w) hp (classData C) cdt := W.looks_clsIn kin hcdt
  rw [W.osa_eq, refuse_eq]
  refine wpAny_bind (wpAny_bind (inst.type.at (wpAny_bind (lookMro.at ?_))))
  rw [hmro, exTail_pass]
  refine wpAny_pure (wpAny_bind (inst.type.at (wpAny_bind ((W.looks_findIn kin hno).at (wpAny_bind (lookTaker.at ?_))))))
  show wpAny _ _ (storeInOwnDict (.ref e) (.ref C) (.str fld tk) fld v false) _ _ _
  obtain ⟨n1, n2, n3, n4, n5, n6, n7, n8, n9, n10, n11⟩ := cdt
  dsimp only at hdct
  subst hdct
  unfold storeInOwnDict ownDictForStores
  repeat (first | with_reducible refine HandSPX.store_in_new ?_ ?_ | with_reducible refine wpAny_loadPart_at he ?_ | with_reducible refine lookCls.at ?_ | wp_step)
  · exact ⟨_, #[], _, (Heap.get?_update_ne _ _ _ _ apart.symm).trans (Heap.get?_push_at rfl rfl), rfl, fun e' h' => absurd h' (by simp), fun _ => rfl⟩
  · intro h' tk' hn' same
    have he' : (hp.push { cls := .type "dict", data := .dict #[] }).get? e = some { cls := .ref C, data := .fields fv } := Heap.get?_push_of_some _ he
    refine next h' tk' hp.objs.size (fun b o hb ho => ?_) (Nat.le_refl _) apart.symm ?_ hn'
    · exact (same.2 b (Nat.ne_of_lt (Heap.lt_size ho))).trans ((Heap.get?_update_ne _ _ _ _ hb).trans (Heap.get?_push_of_some _ ho))
    · exact (same.2 e apart).trans (Heap.get?_update_self _ he' rfl)
/-- a further one -/
theorem next_attr {K : W.Frag} {fld : Str} {tk : Tok} {v : Value} {e C dx : Addr} {fv : Array Value} {cdt : ClassData} {m0 : Str → Option Value} {nl : List Str} (kin : K.In hp) (he : hp.get? e = some { cls := .ref C, dict := some dx, data := .fields fv })
    (hns : hp.Ns1 dx m0) (hin : Within m0 nl) (few : nl.length ≤ 1000) (hcdt : W.clsIn K C = some cdt) (hmro : cdt.mro = .ref C :: exTail) (hdct : cdt.hasDict = true) (hno : W.findIn K (.ref C) fld = some none)
    (next : ∀ h' tk', (∀ b o, b ≠ dx → hp.get? b = some o → h'.get? b = some o) → h'.Ns1 dx (fun y => if y = fld then some v else m0 y) → R (.ok (.ret .none)) ⟨h', g, dr, tk', os⟩) :
    codeAny (model prog w) A (.call (.builtin "object.__setattr__") ⟨[.ref e, .str fld tk, v], []⟩) R ⟨hp, g, dr, t, os⟩ := by
  obtain ⟨oD, esD, epD, hoD, hdD, _⟩ := hns.count hin
  have inst : W.InstAt hp e { cls := .ref C, dict := some dx, data := .fields fv } C (some oD) := ⟨he, rfl, rfl, hoD⟩
  have sf := F.store_object
  have full : cdt.mro.isEmpty = false := by rw [hmro]; rfl
  have isObj : cdt.mro.contains (.type "object") = true := by rw [hmro, exTail_has]; decide +kernel
  have lookObj : W.Looks (model prog w) hp (isInstance (.ref e) (.type "object")) true :=
    inst.type.andThen (W.looks_mroIn kin (by unfold W.mroIn; rw [hcdt, Option.bind_some, if_neg (by rw [full]; decide), isObj]))
  refine codeAny_call_builtin sf.slot.plain sf.entry (@W.check_slot (model prog w) _ _ ⟨hp, g, dr, t, os⟩ "object.__setattr__" "object" "__setattr__" (.ref e) [.str fld tk, v] [] _ sf.kind sf.split lookObj (sf.args (.ref e) (.str fld tk) v) ?_)
  have lookMro : W.Looks (model prog w) hp (mroOf (.ref C)) cdt.mro := (W.looks_clsIn kin hcdt).andThen .now
  have lookTaker : W.Looks (model prog w) hp (storeTaker? none) none := .now
  have lookCls : W.Looks (model prog w) hp (classData C) cdt := W.looks_clsIn kin hcdt
  rw [W.osa_eq, refuse_eq]
  refine wpAny_bind (wpAny_bind (inst.type.at (wpAny_bind (lookMro.at ?_))))
  rw [hmro, exTail_pass]
  refine wpAny_pure (wpAny_bind (inst.type.at (wpAny_bind ((W.looks_findIn kin hno).at (wpAny_bind (lookTaker.at ?_))))))
  show wpAny _ _ (storeInOwnDict (.ref e) (.ref C) (.str fld tk) fld v false) _ _ _
  obtain ⟨n1, n2, n3, n4, n5, n6, n7, n8, n9, n10, n11⟩ := cdt
  dsimp only at hdct
  subst hdct
  unfold storeInOwnDict ownDictForStores
  repeat (first | with_reducible refine OEX.store_in_old hns hin few ?_ | with_reducible refine wpAny_loadPart_at he ?_ | with_reducible refine lookCls.at ?_ | wp_step)
  intro h' tk' hn' same
  exact next h' tk' (fun b o hb ho => (same.2 b hb).trans ho) hn'
end
section
variable {X : Cx} {pins : List (Addr × Obj)} {σ : L2.St} {H : Hp} {s : Shared} {a C dx : Addr} {f : Str} {y : V} {u : Value} {fs : List (Str × V)} {Q : Unit → Shared → Prop} {E : Value → Shared → Prop} {A : Around}
theorem ErrC.clsIs (T : ErrC X.K C) : ∃ cdt, PySem.W.clsIn X.K C = some cdt ∧ cdt.mro = .ref C :: exTail ∧ cdt.hasDict = true := by
  obtain ⟨nm, q, N, bs, sn, sub, ab, col, dd, k0, k1, k2, k3, k5, hC⟩ := T.cl
  refine ⟨{ name := nm, bases := bs, mro := .ref C :: exTail, ns := N, qualname := q, hasDict := true, slotNames := sn, subclasses := sub, abstract := ab, collection := col, hasDel := false }, ?_, rfl, rfl⟩
  unfold PySem.W.clsIn
  rw [hC] <;> rfl
/-- self.f = y, y the first attribute -/
theorem err_first (T : ErrC X.K C) (I : Inv X pins σ H s) (e : H a = some (exo a C none)) (hno : PySem.W.findIn X.K (.ref C) f = some none) (ry : RelV y u)
    (h : ∀ dx s', H dx = none → dx ≠ a → Inv X pins σ (upd (upd H dx (exd dx [(f, y)])) a (exo a C (some dx))) s' → Q () s') : wpAny (model X.prog X.w) A (setAttr (.ref a) f u) Q E s := by
  obtain ⟨cdt, hcdt, hmro, hdct⟩ := T.clsIs
  obtain ⟨t1, ho⟩ := exo_at I.hok e
  obtain ⟨hp, g, d, t, os⟩ := s
  refine PySem.W.set_plain I.kIn (ox := { cls := .ref C, dict := none, data := .fields #[.ref t1, .none, .none, .none, .bool false, .none] }) (od := none) ⟨ho, rfl, rfl, trivial⟩ T.setA ?_
  refine first_attr I.kIn ho hcdt hmro hdct hno (fun h' tk' dx k dn dne hx hn => ?_)
  have freshD : H dx = none := I.hok.fresh dn
  have oldD : ∀ {b : Addr} {o : Obj}, hp.get? b = some o → b ≠ dx := fun {b o} q => Nat.ne_of_lt (Nat.lt_of_lt_of_le (Heap.lt_size q) dn)
  have notA : ∀ {b : Addr}, H b = none → b ≠ a := fun {b} n z => by rw [z, e] at n; cases n
  have stays : Un X.fs [] H (upd (upd H dx (exd dx [(f, y)])) a (exo a C (some dx))) hp h' := by
    refine ⟨fun b o q n _ _ => k b o (notA n) q, fun b o q n _ _ => ⟨o.slots, k b o (notA n) q⟩, fun b o q n _ => ?_, fun b o q _ => ?_, fun b xs q => ?_, fun b o v q => ?_, fun b ps q => ⟨#[], ?_⟩⟩
    · rw [upd_ne (notA n), upd_ne (oldD q)]; exact n
    · by_cases hb : b = a
      · rw [hb]; exact ⟨_, hx⟩
      · exact ⟨o, k b o hb q⟩
    · rw [upd_ne (at_ne e q exo_tup), upd_ne (ne_of_none q freshD)]; exact q
    · rw [upd_ne (at_ne e q exo_frz), upd_ne (ne_of_none q freshD)]; exact q
    · rw [upd_ne (at_ne e q exo_tbl), upd_ne (ne_of_none q freshD), q]; simp
  refine h dx _ freshD dne (I.un (t' := tk') stays fun b o q => ?_)
  by_cases hb : b = a
  · subst hb
    rw [upd_same] at q
    cases q
    exact exo_ok hx
  · rw [upd_ne hb] at q
    by_cases hd : b = dx
    · subst hd
      rw [upd_same] at q
      cases q
      exact exd_ok hn (relO_put (fs := []) ry fun g => True.intro)
    · rw [upd_ne hd] at q
      refine (I.hok b o q).stay (fun c v hc z => k c v ?_ z) (fun c hc => ?_) (fun c xs hc => ?_)
      · rcases hc with hc | hc
        · rw [hc]; exact hb
        · exact at_ne e hc exo_own
      · rw [upd_ne (at_ne e hc exo_own), upd_ne (ne_of_none hc freshD)]; exact hc
      · rw [upd_ne (at_ne e hc exo_tup), upd_ne (ne_of_none hc freshD)]; exact hc
theorem err_next (T : ErrC X.K C) (I : Inv X pins σ H s) (e : H a = some (exo a C (some dx))) (ed : H dx = some (exd dx fs)) (hl : fs.length ≤ 900) (hno : PySem.W.findIn X.K (.ref C) f = some none) (ry : RelV y u)
    (h : ∀ s', Inv X pins σ (upd H dx (exd dx ((f, y) :: fs))) s' → Q () s') : wpAny (model X.prog X.w) A (setAttr (.ref a) f u) Q E s := by
  obtain ⟨cdt, hcdt, hmro, hdct⟩ := T.clsIs
  obtain ⟨t1, ho⟩ := exo_at I.hok e
  obtain ⟨mA, hns, rel⟩ := exd_at I.hok ed
  have hin := within_of rel
  obtain ⟨hp, g, d, t, os⟩ := s
  obtain ⟨oD, _, _, hoD, _, _⟩ := hns.count hin
  refine PySem.W.set_plain I.kIn (ox := { cls := .ref C, dict := some dx, data := .fields #[.ref t1, .none, .none, .none, .bool false, .none] }) (od := some oD) ⟨ho, rfl, rfl, hoD⟩ T.setA ?_
  refine next_attr I.kIn ho hns hin (by rw [List.length_map]; omega) hcdt hmro hdct hno (fun h' tk' k hn => ?_)
  have there : ∃ o, h'.get? dx = some o := by
    obtain ⟨o, _, _, e', _⟩ := hn
    exact ⟨o, e'⟩
  exact h _ (I.write (t' := tk') (x := dx) (e := dx) (o := exd dx ((f, y) :: fs)) (by rw [ed]; exact True.intro) (.inl rfl) k there (exd_ok hn (relO_put ry rel)))
/-- Exception.__init__(self, ..) -/
theorem err_init {us : List Value} {Q : Value → Shared → Prop} (T : ErrC X.K C) (I : Inv X pins σ H s) (e : H a = some (exo a C none)) (hl : us.length ≤ sizeLine) (h : ∀ s', Inv X pins σ H s' → Q .none s') :
    wpAny (model X.prog X.w) A (call (.builtin "Exception.__init__") (.ref a :: us)) Q E s := by
  obtain ⟨nm, q, N, bs, sn, sub, ab, col, dd, k0, k1, k2, k3, k5, hC⟩ := T.cl
  obtain ⟨t1, ho⟩ := exo_at I.hok e
  obtain ⟨hp, g, d, t, os⟩ := s
  refine wpAny_call (PySem.HandSPX.init_base F.excBase_Exception (fun _ => rfl) (I.kIn _ _ hC) ho hl fun h' t2 k hx => ?_)
  have J := I.write (t' := t) (x := a) (e := a) (o := exo a C none) (by rw [e]; exact True.intro) (.inl rfl) k ⟨_, hx⟩ (exo_ok hx)
  have back : upd H a (exo a C none) = H := by
    funext b
    by_cases hb : b = a
    · rw [hb, upd_same, e]
    · rw [upd_ne hb]
  rw [back] at J
  exact h _ J
end
/-- Exception.__init__(self, ..) -/
def tErI (K : PySem.W.Frag) (ta : TA) : TE := fun σ H Q => ta σ H fun vs H1 => ∃ (a C : Addr) (ws : List V), vs = .ref a :: ws ∧ ws.length ≤ 1000 ∧ ErrC K C ∧ H1 a = some (exo a C none) ∧ Q .non H1
/-- self.f = e on an error that is being made -/
def tErSet (K : PySem.W.Frag) (f : Str) (to te : TE) : TS := fun D σ H => te σ H fun y H1 => to σ H1 fun x H2 => ∃ a C : Addr, x = .ref a ∧ ErrC K C ∧ PySem.W.findIn K (.ref C) f = some none ∧
  ((H2 a = some (exo a C none) ∧ ∀ dx, H2 dx = none → dx ≠ a → D.nx σ (upd (upd H2 dx (exd dx [(f, y)])) a (exo a C (some dx)))) ∨
    ∃ (dx : Addr) (fs : List (Str × V)), H2 a = some (exo a C (some dx)) ∧ H2 dx = some (exd dx fs) ∧ fs.length ≤ 900 ∧ D.nx σ (upd H2 dx (exd dx ((f, y) :: fs))))
section
variable {X : Cx} {o e : Expr} {es : List Expr} {to te : TE} {ta : TA} {f : Str} {p p' p1 p2 pos : Pos}
theorem pe_erInit {pl : Sem Bool} (hg : Gl X "Exception") (hm : X.mg "Exception" = none) (vV : PySem.W.findCls X.K (.type "Exception") (.type "type") "__init__" = some (.val (.builtin "Exception.__init__"))) (ha : PA X (e :: es) ta)
    (hc : eval (.Call (.Attribute (.Name "Exception" p1) "__init__" p2) (e :: es) [] pos) X.env = (do
      let ov ← eval (.Name "Exception" p1) X.env
      standAt p2.atName
      let (f, first) ← holding [ov] (getMethod ov "__init__" pl)
      callWith pos f first (backTo pos (starEach (e :: es) X.env)) (backToKw pos (keywordEach [] X.env))) := by rfl)
    (he : starEach (e :: es) X.env = (false, eval e X.env) :: starEach es X.env := by rfl) (hpl : (backTo pos (starEach es X.env)).any (·.1) = false := by rfl) :
    PE X (.Call (.Attribute (.Name "Exception" p1) "__init__" p2) (e :: es) [] pos) (tErI X.K ta) := by
  refine ⟨fun pins s σ H Q I h => ?_⟩
  refine PySem.W.methodCall_KW (ld_blt I hg hm PyProof.Rows.Boot.«Exception» ?_ (by decide) (by decide)) hc
  obtain ⟨m, fr⟩ := I.fr
  refine PySem.W.method_type fr I.ok.mod.kin typ_exc (by decide +kernel) vV (by decide +kernel) ?_
  show wpAny _ _ (callWith pos (Value.builtin "Exception.__init__") [] (backTo pos (starEach (e :: es) X.env)) []) _ _ _
  refine PyProof.Rows.callWith_method1 (thn (ha.run pos pins _ σ H _ (I.tok _) h) fun us s1 ⟨vs, H1, I1, r1, a, C, ws, ev, hl, T, ea, q⟩ => ?_) he hpl
  subst ev
  cases r1 with
  | @cons _ u0 _ ur ra rw' =>
    obtain rfl : u0 = Value.ref a := ra
    have hlen : ur.length ≤ sizeLine := by
      rw [← Paired.length rw', sizeLine_eq]
      omega
    exact err_init T I1 ea hlen fun s' J => ⟨.non, H1, J, rfl, q⟩
theorem ps_erSet (ho : PE X o to) (he : PE X e te) (hs : swapsWith e (some (.Attribute o f p')) pos.line X.env = pure false := by rfl) : PS X (.Assign [.Attribute o f p'] e pos) (tErSet X.K f to te) := by
  refine ⟨fun pins s σ H D I h => ?_⟩
  refine plainObj_wpAny_Assign_Attribute (thn (he.run pins s σ H _ I h) fun v s1 ⟨y, H1, I1, r1, q1⟩ => thn (ho.run pins s1 σ H1 _ I1 q1) fun u s2 ⟨x, H2, I2, r2, a, C, ex, T, hno, q⟩ => ?_) hs
  subst ex
  obtain rfl : u = Value.ref a := r2
  rcases q with ⟨ea, q⟩ | ⟨dx, fs, ea, ed, hl, q⟩
  · exact err_first T I2 ea hno r1 fun dx s' n ne J => ⟨σ, _, J, q dx n ne⟩
  · exact err_next T I2 ea ed hl hno r1 fun s' J => ⟨σ, _, J, q⟩
/-- C(e, ..), its own __init__ keeping sp -/
theorem pmk_err {CX : CXT} {x : Str} {C fI : Addr} {k : Nat} {fd : FuncData} {ps : List Str} {sp : Sp} (T : ErrC X.K C) (iC : PySem.W.findIn X.K (.ref C) "__init__" = some (some (.ref fI))) (tI : PySem.W.typeIn X.K (.ref fI) = some (.type "function"))
    (F1 : FnOk X.prog X.w X.K X.mg X.base CX k fI fd ps sp) (hr : Room (k + 1) X.A) (hb : Binds X.K fd ps []) (hx : Passes CX X (fun _ _ _ => False)) (hg : Gl X x) (hm : X.mg x = some (.ref C)) (ha : PA X (e :: es) ta)
    (hdb : (x == ("__debug__" : Str)) = false := by decide) (he : starEach (e :: es) X.env = (false, eval e X.env) :: starEach es X.env := by rfl) (hpl : (backTo pos (starEach es X.env)).any (·.1) = false := by rfl) :
    PMk X (.Call (.Name x p) (e :: es) [] pos) (tMkO C sp [] ta) := by
  intro pins s σ H Q I h
  obtain ⟨nm, q, N, bs, sn, sub, ab, col, dd, k0, k1, k2, k3, k5, hC⟩ := T.cl
  refine wpAny_Call_Name_kw (ld_glob I hg hm ?_ hdb)
  refine PySem.W.callWith_K (h₀ := X.base) I.ok.mod.kin T.kept (thn (ha.run pos pins s σ H _ I h) fun us s1 ⟨vs, H1, I1, r1, hz, q1⟩ => ⟨I1.kIn, ?_⟩) he hpl
  show wpAny _ _ (call (.ref C) us) _ _ _
  obtain ⟨hp, g, dr, tk, os⟩ := s1
  have up : hp.objs.size ≤ hp.objs.size + 1 := Nat.le_succ _
  have hn : H1 (hp.objs.size + 1) = none := I1.hok.fresh up
  have hq := q1 (hp.objs.size + 1) hn
  rw [List.append_nil] at hq
  have kk : ∀ b o, hp.get? b = some o → ((hp.push (PySem.W.kdv_tup us)).push (PySem.HandSPX.excO C hp.objs.size)).get? b = some o := fun b o e => Heap.get?_push_of_some _ (Heap.get?_push_of_some _ e)
  have made : ((hp.push (PySem.W.kdv_tup us)).push (PySem.HandSPX.excO C hp.objs.size)).get? (hp.objs.size + 1) = some (PySem.HandSPX.excO C hp.objs.size) := by heap_get
  have I2 := I1.laid (t' := tk) (a := hp.objs.size + 1) (o := exo (hp.objs.size + 1) C none) (h' := (hp.push (PySem.W.kdv_tup us)).push (PySem.HandSPX.excO C hp.objs.size)) kk up (exo_ok made)
  have r2 : Vals (V.ref (hp.objs.size + 1) :: vs) (Value.ref (hp.objs.size + 1) :: us) := .cons rfl r1
  have hl : (Value.ref (hp.objs.size + 1) :: us).length = ps.length := by
    have e := r2.length
    rw [F1.len _ _ _ _ hq] at e
    exact e.symm
  have hus : us.length ≤ sizeLine := by
    rw [← Paired.length r1, sizeLine_eq]
    omega
  have hb' := hb _ (Value.ref (hp.objs.size + 1) :: us) I2.kIn (by rw [List.append_nil]; exact hl)
  rw [List.append_nil] at hb'
  refine wpAny_call (PySem.HandSPX.call_own F.excBase_Exception (fun _ => rfl) (I1.kIn _ _ hC) (PySem.W.looks_findIn I1.kIn iC) (fun self => PySem.W.bind_fn I1.kIn self tI) hus
    (codeAny_mono (F1.run _ X.stack _ _ ⟨Value.ref (hp.objs.size + 1) :: us, []⟩ (Value.ref (hp.objs.size + 1) :: us) _ _ (fun _ _ _ => False) (hr.make C us []) (I2.env0.make C us []) hb' r2 hq) fun r s' hq' => ?_))
  cases r with
  | error er => exact hx pins σ _ _ er s' I2 hq'
  | ok fl =>
    cases fl with
    | ret u =>
      obtain ⟨v, H2, os2, bare2, un2, hok2, rv, ev, d, fs, ea, ed, hd1, q2⟩ := hq'
      subst ev
      obtain ⟨h2, g2, d2, t2, os'⟩ := s'
      exact ⟨rv, mk_end (raises_own T.isX T.isT) I1 up kk un2 hok2 os2 bare2 ea ed hd1 q2⟩
    | next => exact False.elim hq'
    | brk => exact False.elim hq'
    | cont => exact False.elim hq'
end
theorem rd_erI {K : PySem.W.Frag} {σ : L2.St} {H : Hp} {ta : TA} {Q : VK} (q : ta σ H fun vs G => ∃ (a C : Addr) (ws : List V), vs = .ref a :: ws ∧ ws.length ≤ 1000 ∧ ErrC K C ∧ G a = some (exo a C none) ∧ Q .non G) : tErI K ta σ H Q := q
theorem rd_erSet {K : PySem.W.Frag} {σ : L2.St} {H : Hp} {to te : TE} {f : Str} {D : Ends} (q : te σ H fun y G => to σ G fun x F => ∃ a C : Addr, x = .ref a ∧ ErrC K C ∧ PySem.W.findIn K (.ref C) f = some none ∧
  ((F a = some (exo a C none) ∧ ∀ dx, F dx = none → dx ≠ a → D.nx σ (upd (upd F dx (exd dx [(f, y)])) a (exo a C (some dx)))) ∨
    ∃ (dx : Addr) (fs : List (Str × V)), F a = some (exo a C (some dx)) ∧ F dx = some (exd dx fs) ∧ fs.length ≤ 900 ∧ D.nx σ (upd F dx (exd dx ((f, y) :: fs))))) : tErSet K f to te D σ H := q
end Bk
end
section
/-! enumerate over a tuple -/
namespace Bk
open PySem PySem.Spec PyProof.Rows L2
theorem enum_new_of {v : Value} {o : Obj} {Hh : Heap → Prop} (B : Begins v o Hh) :
    Meets (Builtin.«enumerate.__new__» ⟨[.type "enumerate", v], []⟩) (fun _ R s => Hh s.heap ∧
      R (.ok (.ret (.ref (s.heap.push o).objs.size))) { s with heap := (s.heap.push o).push { cls := .type "enumerate", data := .fields #[.none, .bool false, .ref s.heap.objs.size, rawInt 0, .none, .none] } }) :=
  .of_wp fun prog w A R s h => by
    obtain ⟨hp, g, d, tk, os⟩ := s
    obtain ⟨h1, h⟩ := h
    have hsub := sub_enumerate
    have start : ∀ {A' : Around} {E : Value → Shared → Prop} {Q : Value → Shared → Prop}, Q (.ref hp.objs.size) ⟨hp.push o, g, d, tk, os⟩ → wpAny (model prog w) A' (pyIter v) Q E ⟨hp, g, d, tk, os⟩ :=
      fun q => B.iter prog w _ _ ⟨hp, g, d, tk, os⟩ _ h1 q
    wp_walk using start
    refine wpAny_stack_any fun st => wpAny_pure ?_
    split
    · rename_i c _ _ _ _ _
      cases (c == Value.type "enumerate") <;> (wp_walk using start; exact ⟨_, rfl, h⟩)
    · wp_walk using start
      exact ⟨_, rfl, h⟩
section
variable {prog : Program} {w : World} {A : Around} {E : Value → Shared → Prop} {s : Shared}
theorem enum_call {v : Value} {o : Obj} {Hh : Heap → Prop} {Q : Value → Shared → Prop} (B : Begins v o Hh) (h1 : Hh s.heap)
    (h : ∀ h', IsEnum h' (s.heap.objs.size + 1) s.heap.objs.size 0 .none → h'.get? s.heap.objs.size = some o → (∀ b o, s.heap.get? b = some o → h'.get? b = some o) → Q (.ref (s.heap.objs.size + 1)) { s with heap := h' }) :
    wpAny (model prog w) A (call (.type "enumerate") [v]) Q E s := by
  refine callType_new F.called_enumerate (by decide) (F.typeCall_enumerate_1 _) (F.newCall_enumerate_1 _) (fun obj => F.args_object_init_2 obj _) F.entry_enumerate_new (enum_new_of B) ⟨h1, ?_⟩
  have hz : (s.heap.push o).objs.size = s.heap.objs.size + 1 := Heap.size_push ..
  show _ ∧ _
  rw [hz]
  have he : IsEnum ((s.heap.push o).push { cls := .type "enumerate", data := .fields #[.none, .bool false, .ref s.heap.objs.size, rawInt 0, .none, .none] }) (s.heap.objs.size + 1) s.heap.objs.size 0 .none := by
    have q := Heap.get?_push_size (s.heap.push o) (o := { cls := .type "enumerate", data := .fields #[.none, .bool false, .ref s.heap.objs.size, rawInt 0, .none, .none] }) rfl
    rw [hz] at q
    exact q
  exact ⟨⟨_, he, rfl⟩, h _ he (Heap.get?_push_of_some _ (Heap.get?_push_size _ B.free)) fun b o x => Heap.get?_push_of_some _ (Heap.get?_push_of_some _ x)⟩
/-- behind the last item -/
theorem enumT_end {e it a : Addr} {c : Int} {i : Nat} {old : Value} {items : Array Value} {Q : Option Value → Shared → Prop} (calm : A.handled = none) (he : IsEnum s.heap e it c old) (hit : s.heap.IsTupleIter it a i) (ha : s.heap.IsTuple a items)
    (none_left : items[i]? = none) (next : ∀ h', Heap.ExtBut it s.heap h' → Q none { s with heap := h' }) : wpAny (model prog w) A (pyNext (.ref e)) Q E s := by
  have ty : s.TypeIs (.ref e) "enumerate" := ⟨_, he, rfl⟩
  unfold pyNext
  refine wpAny_bind (wpAny_attempt (wpAny_callSpecial?_slot (name := Str.ofString "__next__") ty F.slot_enumerate_next (wpAny_call_entry F.slot_enumerate_next ty F.entry_enumerate_next ?_ (F.args_enumerate_next_1 _))))
  show wpAny _ _ (field (.ref e) 2 >>= _) _ _ _
  refine wpAny_bind (wpAny_field he rfl (x := .ref it) rfl ?_)
  refine wpAny_bind (wpAny_nextOf_tuple_end (show A.in1.handled = none from calm) hit ha none_left fun h' x keep hx => ?_)
  obtain ⟨ox, hox, hcx⟩ := hx
  refine wpAny_bind (wpAny_isInstance (T := "StopIteration") (b := true) ⟨ox, hox, hcx⟩ isSubtype_stop ?_)
  exact wpAny_pure (next _ keep)
end
/-- the items of the tuple at a, each in a new pair with its place -/
def IteT (K : PySem.W.Frag) (a : Addr) : It where
  go := fun i H => ∃ (xs : List V) (x : V), SqT K H a xs ∧ xs[i]? = some x
  yld := fun i H v H' => ∃ T x, v = .ref T ∧ H T = none ∧ H' = upd H T (.tup [.int (i : Nat), x]) ∧ ∀ xs, SqT K H a xs → xs[i]? = some x
  stop := fun i H => ∃ xs : List V, SqT K H a xs ∧ xs.length ≤ i
theorem apart_of {h : Heap} {a b : Addr} {o u : Obj} (ha : h.get? a = some o) (hb : h.get? b = some u) (d : o.cls ≠ u.cls) : a ≠ b := fun z => by
  rw [z, hb] at ha
  exact d (congrArg Obj.cls (Option.some.inj ha)).symm
theorem turn_enumT {P : Program} {w : World} {K : PySem.W.Frag} {elts : List Expr} {kk : Nat} {tpos : Pos} (a e it : Addr) :
    Turn P w K (.Tuple elts kk tpos) (IteT K a) [e, it] e (fun i h => (∃ old, IsEnum h e it ((i : Nat) : Int) old) ∧ h.IsTupleIter it a i ∧ e ≠ it) where
  mem := by simp
  obj := fun i h st b hb => by
    obtain ⟨⟨old, he⟩, ⟨o, ho, hc, hd⟩, _⟩ := st
    rcases (show b = e ∨ b = it by simpa using hb) with z | z <;> subst z
    · exact ⟨_, he, fun v q => nomatch q⟩
    · exact ⟨o, ho, fun v q => by rw [hd] at q; cases q⟩
  keep := fun i h h' ⟨⟨old, he⟩, hi, hne⟩ k => ⟨⟨old, k e (by simp) _ he⟩, hi.at fun o q => k it (by simp) o q, hne⟩
  item := by
    intro X hP hw hK hc i pins s σ H E I hf st hg
    subst hP hw hK
    obtain ⟨⟨old, he⟩, hit, hne⟩ := st
    obtain ⟨xs, x, hq, hx⟩ := hg
    obtain ⟨its, rv, p, hz⟩ := I.tuple hq
    obtain ⟨u, hu, ru⟩ := rv.get hx
    have hel : e < s.heap.objs.size := Heap.lt_size he
    have hit0 := hit
    obtain ⟨oi, hoi, hci, _⟩ := hit0
    have hil : it < s.heap.objs.size := Heap.lt_size hoi
    have p' : s.heap.IsTuple a its.toArray := p
    obtain ⟨oa, hoa, hca, _⟩ := id p'
    have a_it : a ≠ it := apart_of hoa hoi (by rw [hca, hci]; decide)
    have a_e : e ≠ a := apart_of he hoa (by rw [hca]; exact fun z => absurd (Value.type.inj z) (by decide))
    have D := Draws.tuple (prog := X.prog) (w := X.w) (A := X.A.in1) (show X.A.in1.handled = none from I.ok.hd hc) it a a_it its.toArray
    have hlt : i < its.toArray.size := by
      have := (List.getElem?_eq_some_iff.mp hu).1
      simpa using this
    refine wpAny_pyNext_enum_itemD D he ⟨hit, p'⟩ hlt hne (by simp; exact ⟨hne, a_e⟩) fun x' h' tk hx' ho hst' hT hsz hk => ?_
    have ex : x' = u := by
      have q := hx'.symm.trans (show its.toArray[i]? = some u by simpa using hu)
      exact Option.some.inj q
    subst ex
    refine ⟨_, rfl, wpAny_letOwnedTupleGo_enum (s := { s with heap := h', toks := tk + 1 }) ho fun h'' he' sb => ?_⟩
    have hT2 : h''.get? s.heap.objs.size = some { cls := .type "tuple", data := .seq #[.int i tk, x'] } := (sb.2 _ (Nat.ne_of_gt hel)).trans hT
    have made : ObjOk X.prog X.w (upd H s.heap.objs.size (.tup [.int (i : Nat), x])) h'' s.heap.objs.size (.tup [.int (i : Nat), x]) :=
      ⟨by show 2 ≤ sizeLine; decide, [.int i tk, x'], .cons ⟨_, rfl⟩ (.cons ru .nil), ⟨_, hT2, rfl, _, rfl⟩⟩
    have I1 : Inv X pins σ (upd H s.heap.objs.size (.tup [.int (i : Nat), x])) { s with heap := h'', toks := tk + 1 } := by
      refine I.turnedNew (ch := [e, it]) (fun b ob hb q => ?_) hf (Nat.le_refl _) made
      have b1 : b ≠ e := fun z => hb (by simp [z])
      have b2 : b ≠ it := fun z => hb (by simp [z])
      exact (sb.2 b b1).trans (hk b ob b1 b2 q)
    refine ⟨.ref s.heap.objs.size, _, I1, rfl, ⟨_, x, rfl, I.hok.fresh (Nat.le_refl _), rfl, fun ys hy => by rw [I.tuple_inj hy hq]; exact hx⟩, ⟨⟨x', ?_⟩, hst'.1.at fun o q => (sb.2 it (Ne.symm hne)).trans q, hne⟩, fun b hb => ?_⟩
    · rw [show ((i + 1 : Nat) : Int) = (i : Int) + 1 by omega]
      exact he'
    · have hb' : b < s.heap.objs.size := by
        rcases (show b = e ∨ b = it by simpa using hb) with z | z <;> rw [z] <;> assumption
      rw [upd_ne (Nat.ne_of_lt hb')]
      exact (hf b hb).1
  done := by
    intro X hP hw hK hc i pins s σ H E I hf st hg
    subst hP hw hK
    obtain ⟨⟨old, he⟩, hit, hne⟩ := st
    obtain ⟨xs, hq, hx⟩ := hg
    obtain ⟨its, rv, p, hz⟩ := I.tuple hq
    obtain ⟨f0, f1, f2, f3, f4, f5⟩ := hf it (by simp)
    have hit0 := hit
    obtain ⟨oi, hoi, hci, _⟩ := hit0
    have p' : s.heap.IsTuple a its.toArray := p
    obtain ⟨oa, hoa, hca, _⟩ := id p'
    have a_it : a ≠ it := apart_of hoa hoi (by rw [hca, hci]; decide)
    exact enumT_end (I.ok.hd hc) he hit p' (by have := rv.length; simp; omega) fun h' eb => ⟨rfl, I.turned (t' := s.toks) (fun b o hb q => eb b o hb q) f0 f1 f3 f4 f5⟩
  self := fun A i s Q E ⟨⟨_, he⟩, _⟩ h => wpAny_pyIter_enum he h
def iEnumT (K : PySem.W.Frag) (ta : TA) : TI := fun σ H R => ta σ H fun vs H1 => ∃ a xs, vs = [.ref a] ∧ SqT K H1 a xs ∧ R (IteT K a) H1
theorem rd_iEnumT {K : PySem.W.Frag} {ta : TA} {σ : L2.St} {H : Hp} {R : It → Hp → Prop} (q : ta σ H fun vs H1 => ∃ a xs, vs = [.ref a] ∧ SqT K H1 a xs ∧ R (IteT K a) H1) : iEnumT K ta σ H R := q
theorem pi_enumT {X : Cx} {e : Expr} {ta : TA} {p pos tpos : Pos} {elts : List Expr} {kk : Nat} (hg : Gl X "enumerate") (hm : X.mg "enumerate" = none) (ha : PA X [e] ta) (hs : starEach [e] X.env = [(false, eval e X.env)] := by rfl) :
    PI X (.Tuple elts kk tpos) (.Call (.Name "enumerate" p) [e] [] pos) (iEnumT X.K ta) := by
  refine ⟨fun pins s σ H R I h => Call_ (ld_blt I hg hm boot_enumerate (PyProof.Rows.callWith_type1 (thn (ha.run pos pins s σ H _ I h) fun us s1 hh => ?_) hs rfl))⟩
  obtain ⟨vs, H1, I1, r1, a, xs, ex, hq, q⟩ := hh
  subst ex
  cases r1 with
  | cons r rr =>
    cases rr
    cases r
    obtain ⟨its, rv, p', hz⟩ := I1.tuple hq
    refine enum_call (begins_tuple a its.toArray) p' fun h' he hit hk => wpAny_pyIter_enum he ?_
    have I2 : Inv X pins σ H1 { s1 with heap := h' } := I1.kept (t' := s1.toks) hk
    refine ⟨s1.heap.objs.size + 1, [s1.heap.objs.size + 1, s1.heap.objs.size], _, _, H1, rfl, I2, turn_enumT a (s1.heap.objs.size + 1) s1.heap.objs.size, ⟨⟨.none, he⟩, ⟨_, hit, rfl, rfl⟩, Nat.succ_ne_self _⟩, fun b hb => ?_, q⟩
    have hle : s1.heap.objs.size ≤ b := by
      rcases (show b = s1.heap.objs.size + 1 ∨ b = s1.heap.objs.size by simpa using hb) with z | z
      · exact z ▸ Nat.le_succ _
      · exact Nat.le_of_eq z.symm
    exact I1.fpOk hle (I1.hok.fresh hle)
theorem walk_enumT {K : PySem.W.Frag} {a : Addr} {xs : List V} : Walk (IteT K a) xs.length (fun H => SqT K H a xs) (YPair (fun i => some (.int (i : Nat))) (fun i => xs[i]?)) := by
  refine ⟨fun i _ hi q => ⟨xs, xs[i], q, List.getElem?_eq_getElem hi⟩, fun _ q => ⟨xs, q, Nat.le_refl _⟩, fun i H v H' _ q y => ?_⟩
  obtain ⟨T, x, y1, y2, y3, y4⟩ := y
  exact ⟨T, .int (i : Nat), x, y1, y2, y3, rfl, y4 xs q⟩
end Bk
end
section
/-! min with a default -/
namespace Bk
open PySem PySem.Spec PyProof.Rows L2
section
variable {prog : Program} {w : World} {A : Around} {E : Value → Shared → Prop} {Q : Value → Shared → Prop} {s : Shared} {l : Addr} {its : List Value} {ns : List Int} {d : Value}
theorem minD_run (calm : A.handled = none) (hl : s.heap.IsList l its.toArray) (hi : IntsAre its ns)
    (h0 : ns = [] → ∀ h' tk, (∀ b o, s.heap.get? b = some o → h'.get? b = some o) → Q d { s with heap := h', toks := tk })
    (h1 : ∀ h' tk m t', (∀ b o, s.heap.get? b = some o → h'.get? b = some o) → m ∈ ns → (∀ y, y ∈ ns → m ≤ y) → Q (.int m t') { s with heap := h', toks := tk }) : wpAny (model prog w) A (call (.builtin "min") [.ref l] [(Str.ofString "default", d)]) Q E s := by
  obtain ⟨xs, e⟩ := hi.allInts.items
  have hn : numsOf (intItems xs).toList = ns := by rw [← e]; exact hi.numsOf
  rw [nums_intItems] at hn
  subst hn
  rw [e] at hl
  have hsz : (intItems xs).size = xs.size := by simp [intItems]
  refine call_min_walkD (PySem.W.iter_listW (A := A.in1) calm hl fun s₂ es W st hfp hw hk => ?_)
  refine ⟨_, _, _, _, _, _, _, s.heap, (fun i j => decide (numAt xs i < numAt xs j)), rfl, W, st, hfp, hw, hk, fun hz s' m => ?_, fun hp => ⟨fun i j vi vj s3 Q3 E3 _ hi hj q => CmpOf.ints_lt (numAt xs) (fun _ _ => intItems_at) i j vi vj s3 Q3 E3 hi hj q, fun v s' hP m => ?_⟩⟩
  · obtain ⟨h', tk, rfl, hk'⟩ := PySem.W.moved_old es rfl m
    have : xs.toList = [] := List.eq_nil_of_length_eq_zero (by rw [Array.length_toList]; omega)
    exact h0 (by rw [this]; rfl) h' tk hk'
  · obtain ⟨h', tk, rfl, hk'⟩ := PySem.W.moved_old es rfl m
    rw [hsz] at hP hp
    obtain ⟨t, rfl⟩ := intItems_at hP
    obtain ⟨q1, q2⟩ := argBest_lt (numAt xs) (xs.size - 1)
    refine h1 h' tk _ t hk' ?_ fun y hy => ?_
    · rw [numAt_eq]; exact PySem.getD_mem (by rw [List.length_map, Array.length_toList]; omega)
    · obtain ⟨j, hj, rfl⟩ := mem_getD hy
      rw [List.length_map, Array.length_toList] at hj
      rw [← numAt_eq]; exact q2 j (by omega)
end
/-- min(xs, default=d), xs a list of ints -/
def rMinD (K : PySem.W.Frag) : List V → List V → Hp → VK → Prop := fun vs zs H Q => ∃ (a : Addr) (ns : List Int) (d : V), vs = [V.ref a] ∧ zs = [d] ∧ SqL K H a (ns.map V.int) ∧
  (ns = [] → Q d H) ∧ ∀ m, m ∈ ns → (∀ y, y ∈ ns → m ≤ y) → Q (.int m) H
theorem cr_minD {X : Cx} (hc : X.calm = true) : CallRK X (.builtin "min") ["default"] (rMinD X.K) := by
  intro pins s σ H vs zs us ws Q I r rz h
  obtain ⟨a, ns, d, rfl, rfl, hs, q0, q1⟩ := h
  obtain ⟨its, rv, hl, _⟩ := I.list hs
  rw [Vals.ref1 r]
  cases rz with
  | cons rd rr =>
    cases rr
    exact minD_run (I.ok.hd hc) hl.isList rv.ints (fun e h' tk hk => ⟨d, H, I.kept hk, rd, q0 e⟩) fun h' tk m t' hk h1 h2 => ⟨.int _, H, I.kept hk, ⟨_, rfl⟩, q1 m h1 h2⟩
end Bk
end
section
/-! len of a set of tuples of ints -/
namespace Bk
open PySem PySem.Spec PyProof.Rows L2
/-- len(set): how many, and that they are unlike -/
def rLenST (K : PySem.W.Frag) (P : Program) (w : World) : List V → Hp → VK → Prop := fun vs H Q => ∃ (a : Addr) (L : List (Addr × List Int)), vs = [V.ref a] ∧ H a = some (SetTO P w a L) ∧ (∀ p ∈ L, SqT K H p.1 (p.2.map V.int)) ∧ ((L.map (·.2)).Nodup → Q (.int (L.length : Nat)) H)
theorem cr_lenST {X : Cx} : CallR X (.builtin "len") (rLenST X.K X.prog X.w) := by
  intro pins s σ H vs us Q I r h
  obtain ⟨a, L, rfl, ha, hk, q⟩ := h
  have R0 : SetT0 X.prog X.w s.heap a L := (I.hok a _ ha).1
  obtain ⟨es, ep, t, R⟩ := R0.full fun p hp => I.isT (hk p hp)
  rw [Vals.ref1 r]
  obtain ⟨o, ho, hex, hd⟩ := R.ob
  have hn : es.size = L.length := by
    have e := congrArg List.length R.rows
    rw [Array.length_toList] at e
    rw [e]
    unfold rowsOf
    simp
  have few := R.few
  exact call_len_set ho hex hd R.fits (by rw [hn] <;> omega) ⟨.int (L.length : Nat), H, I.tok _, ⟨_, by rw [hn]⟩, q R.nd⟩
end Bk
end
section
/-! sorted(d.items()) of ints, min of pairs with a default, set(list of ints) -/
namespace Bk
open PySem PySem.Spec PyProof.Rows L2 L2.DX
/-! ### d.items(), sorted of it -/
section
variable {X : Cx}
def rItemsI : V → List V → Hp → VK → Prop := fun x xs H Q => ∃ (a : Addr) (kvs : List (Key × V)), x = .ref a ∧ xs = [] ∧ H a = some (.dK kvs) ∧ ∀ p, H p = none → Q (.ref p) (upd H p (itemsO p a))
theorem mt_itemsI : MtR X "dict.items" rItemsI := by
  intro pins s σ H x xs v us Q I rx rxs h
  obtain ⟨a, kvs, rfl, rfl, ha, q⟩ := h
  cases rx
  cases rxs
  obtain ⟨hz, hs0, vs, kv, hdo⟩ := I.hok a _ ha
  refine call_meetsIn PySem.F.slot_dict_items hdo.typeIs PySem.F.entry_dict_items (PySem.F.args_dict_items_1 _) (meets_dict_items (mixKind X.prog X.w) a hs0) ⟨⟨vs, hdo⟩, ?_⟩
  exact ⟨.ref s.heap.objs.size, _, I.laid (t' := s.toks) (fun b u e => Heap.get?_push_of_some _ e) (Nat.le_refl _) (itemsO_ok (Heap.get?_push_size _ rfl)), rfl, q _ (I.hok.fresh (Nat.le_refl _))⟩
end
section
variable {prog : Program} {w : World} {A : Around} {E : Value → Shared → Prop} {s : Shared}
theorem sorted_view {K : Type} [DecidableEq K] {knd : KeyKind prog w K} {r d : Addr} {kvs : List (K × Value)} {ep : Nat} {Q : Value → Shared → Prop} (hh : A.handled = none) (hv : s.heap.IsItemsView r d) (hm : s.heap.DictAt knd d kvs ep) (hn : kvs.length ≤ sizeLine)
    (h : ∀ (h' : Heap) (tk : Nat) (as : List Addr), (∀ b o, s.heap.get? b = some o → h'.get? b = some o) → as.length = kvs.length → PySem.W.KdxG knd kvs s.heap.objs.size h' as →
      wpAny (model prog w) A.in1 (call (.builtin "list.sort") [.ref h'.objs.size]) (fun _ s' => Q (.ref h'.objs.size) s') E { s with heap := h'.push (seqObj "list" (as.map Value.ref).toArray 0), toks := tk }) :
    wpAny (model prog w) A (call (.builtin "sorted") [.ref r]) Q E s := by
  refine Calls.call_function_entry kind_sorted plain_sorted entry_sorted (args_sorted1 _) ?_
  unfold Builtin.«sorted»
  refine wpAny_bind (m := checkCount "sorted" 1 1 _) (wpAny_pure ?_)
  refine wpAny_bind (PySem.W.kdx_collect (A := A.in1) (knd := knd) (kvs := kvs) (ep := ep) hh hv hm hn fun h' tk as hk hl hG => ?_)
  refine wpAny_bind (wpAny_newList ?_ (by rw [List.length_map, hl]; exact hn))
  refine wpAny_bind (wpAny_holding (wpAny_mono (h h' tk as hk hl hG) (fun _ s' x => wpAny_pure ⟨_, rfl, x⟩) fun _ _ e => e))
end
theorem find_at {α : Type} (d : α) : ∀ (as : List Addr) (ps : List α) (j : Nat) (b : Addr) (p : α), as.Nodup → as[j]? = some b → ps[j]? = some p → ((as.zip ps).lookup b).getD d = p
  | [], _, _, _, _, _, h, _ => by simp at h
  | _ :: _, [], _, _, _, _, _, h => by simp at h
  | a :: as, q :: ps, 0, b, p, _, h1, h2 => by
    simp only [List.getElem?_cons_zero, Option.some.injEq] at h1 h2
    subst h1 h2
    simp
  | a :: as, q :: ps, j + 1, b, p, nd, h1, h2 => by
    simp only [List.getElem?_cons_succ] at h1 h2
    have nd' := List.nodup_cons.mp nd
    have hne : ¬ b = a := fun z => nd'.1 (by rw [← z]; exact List.mem_of_getElem? h1)
    rw [List.zip_cons_cons, List.lookup_cons]
    have : (b == a) = false := by simpa using hne
    rw [this]
    exact find_at d as ps j b p nd'.2 h1 h2
/-- what the pairs at these addresses are -/
def pairAt (as : List Addr) (ps : List (Int × Int)) : Value → Int × Int
  | .ref b => ((as.zip ps).lookup b).getD (0, 0)
  | _ => (0, 0)
theorem map_pairAt {as : List Addr} {ps : List (Int × Int)} (nd : as.Nodup) (hl : as.length = ps.length) : (as.map Value.ref).map (pairAt as ps) = ps := by
  refine List.ext_getElem? fun j => ?_
  rw [List.getElem?_map, List.getElem?_map]
  cases ha : as[j]? with
  | none =>
    have : ps.length ≤ j := by
      have := List.getElem?_eq_none_iff.mp ha
      omega
    rw [List.getElem?_eq_none_iff.mpr this]; rfl
  | some b =>
    have hj : j < ps.length := by
      have := (List.getElem?_eq_some_iff.mp ha).1
      omega
    rw [List.getElem?_eq_getElem hj]
    show some (pairAt as ps (.ref b)) = _
    exact congrArg some (find_at (0, 0) as ps j b _ nd ha (List.getElem?_eq_getElem hj))
abbrev addrV : Value → Addr
  | .ref a => a
  | _ => 0
abbrev entI (p : Int × Int) : Key × V := (Sum.inl p.1, .int p.2)
/-- sorted(d.items()), keys and values ints -/
def rSortedItemsI : List V → Hp → VK → Prop := fun vs H Q => ∃ (p a : Addr) (ps : List (Int × Int)), vs = [.ref p] ∧ H p = some (itemsO p a) ∧ H a = some (.dK (ps.map entI)) ∧ ps ≠ [] ∧
  ∀ (H' : Hp) (l : Addr) (ts : List (Addr × Int × Int)), (∀ b o, H b = some o → H' b = some o) → H l = none → (ts.map (·.2)).Perm ps → (ts.map (·.2)).Pairwise (fun x y => SrtO.lexB y x = false) → H' l = some (.lst (ts.map fun t => V.ref t.1)) →
    (∀ t ∈ ts, H' t.1 = some (.tup [.int t.2.1, .int t.2.2])) → Q (.ref l) H'
theorem cr_sortedItemsI {X : Cx} (hc : X.calm = true) : CallR X (.builtin "sorted") rSortedItemsI := by
  intro pins s σ H xs us Q I r h
  obtain ⟨p, a, ps, rfl, hp, ha, hne, q⟩ := h
  obtain rfl := Vals.ref1 r
  have view : s.heap.IsItemsView p a := (show ObjOk X.prog X.w H s.heap p (itemsO p a) from I.hok p _ hp).1
  obtain ⟨hz, hs0, vs, kv, hdo⟩ := I.hok a _ ha
  obtain ⟨ep, hat⟩ := hdo.dictAt
  have lk : ps.length = vs.length := by have := Paired.length kv; rwa [List.length_map] at this
  rw [List.length_map] at hz
  have hh : X.A.handled = none := I.ok.hd hc
  refine sorted_view (knd := mixKind X.prog X.w) (kvs := vs) hh view hat (by omega) fun h' tk as hk hl hG => ?_
  have las : as.length = ps.length := by omega
  have nd : as.Nodup := List.Pairwise.imp (fun {a b} (h : a < b) => Nat.ne_of_lt h) hG.rise
  -- the pairs that were made
  have pr : ∀ (j : Nat) (b : Addr), as[j]? = some b → ∃ (e : Int × Int) (t u : Tok), ps[j]? = some e ∧ h'.get? b = some { cls := .type "tuple", data := .seq #[.int e.1 t, .int e.2 u] } := by
    intro j b hj
    obtain ⟨key, k, x, f1, f2, f3⟩ := hG.pairs j b hj
    have hjp : j < ps.length := by have := (List.getElem?_eq_some_iff.mp hj).1; omega
    obtain ⟨qv, g1, g2, g3⟩ := LiI.paired_get kv (i := j) (x := entI ps[j]) (by rw [List.getElem?_map, List.getElem?_eq_getElem hjp]; rfl)
    rw [f1] at g1
    cases g1
    obtain ⟨t, rfl⟩ : ∃ t, key = Value.int ps[j].1 t := by
      have rk : RelV (kV (entI ps[j]).1) key := by
        rw [g2]
        exact relV_key (show keyIs k key = true from f2)
      exact rk
    obtain ⟨u, rfl⟩ := g3
    exact ⟨ps[j], t, u, List.getElem?_eq_getElem hjp, f3⟩
  have hb : h'.objs.size < (h'.push (seqObj "list" (as.map Value.ref).toArray 0)).objs.size := by rw [Heap.size_push]; exact Nat.lt_succ_self _
  have hob : (h'.push (seqObj "list" (as.map Value.ref).toArray 0)).get? h'.objs.size = some (seqObj "list" (as.map Value.ref).toArray 0) := Heap.get?_push_size _ rfl
  have ka : ∀ b o, h'.get? b = some o → (h'.push (seqObj "list" (as.map Value.ref).toArray 0)).get? b = some o := fun b o e => Heap.get?_push_of_some _ e
  have kne : ∀ b o, h'.get? b = some o → b ≠ h'.objs.size := fun b o e => Nat.ne_of_lt (Heap.lt_size e)
  have lowL : s.heap.objs.size ≤ h'.objs.size := by
    cases as with
    | nil => exact absurd (List.eq_nil_of_length_eq_zero las.symm) hne
    | cons b0 rest => exact Nat.le_of_lt (Nat.lt_trans (hG.above b0 List.mem_cons_self) (hG.there List.mem_cons_self))
  generalize hh2 : h'.push (seqObj "list" (as.map Value.ref).toArray 0) = h2 at hob ka hb ⊢
  have kb : ∀ b o, s.heap.get? b = some o → h2.get? b = some o := fun b o e => ka b o (hk b o e)
  have isP : ∀ v ∈ as.map Value.ref, Srt.IsPair h2 v (pairAt as ps v).1 (pairAt as ps v).2 := fun v hv => by
    obtain ⟨b, hbm, rfl⟩ := List.mem_map.mp hv
    obtain ⟨j, hj⟩ := List.mem_iff_getElem?.mp hbm
    obtain ⟨e, t, u, he, hg⟩ := pr j b hj
    have e1 : pairAt as ps (.ref b) = e := find_at (0, 0) as ps j b e nd hj he
    rw [e1]
    exact ⟨b, _, t, u, 0, rfl, ka _ _ hg, rfl, rfl⟩
  have hzl : (as.map Value.ref).length ≤ sizeLine := by rw [List.length_map]; omega
  refine wpAny_call_entry slot_list_sort ⟨_, hob, rfl⟩ entry_list_sort
    (SrtO.list_sort_ord (s := { s with heap := h2, toks := tk }) (SrtO.swo_lex (pairAt as ps)) hob hzl (fun h22 => SrtO.pairs_sortableO (s := { s with heap := h2, toks := tk }) (by omega) isP fun o e => ?_) fun out o1 o2 => ⟨.none, rfl, ?_⟩) (args_list_sort _)
  · have e' := hob.symm.trans e
    cases e'
    exact fun c => absurd (Value.type.inj c) (by decide)
  -- the sorted pairs
  have kF : ∀ b o, b ≠ h'.objs.size → h2.get? b = some o → (sortedHeap h2 h'.objs.size (as.map Value.ref) out.toArray).get? b = some o := fun b o hb e => (sortedHeap_old hb (Heap.lt_size e)).trans e
  obtain ⟨eF, heF⟩ := sortedHeap_at (vs := as.map Value.ref) (out := out.toArray) hob
  have rf : ∀ v ∈ out, ∃ b, v = Value.ref b ∧ b ∈ as := fun v hv => by
    obtain ⟨b, hbm, e⟩ := List.mem_map.mp (o2.perm.mem_iff.mp hv)
    exact ⟨b, e.symm, hbm⟩
  have e2 : (out.map fun v => (addrV v, pairAt as ps v)).map (·.2) = out.map (pairAt as ps) := by rw [List.map_map]; rfl
  have e3 : ((out.map fun v => (addrV v, pairAt as ps v)).map fun t => V.ref t.1) = out.map backV := by
    rw [List.map_map]
    refine List.map_congr_left fun v hv => ?_
    obtain ⟨b, rfl, _⟩ := rf v hv
    rfl
  have hlen : out.length = ps.length := by rw [o2.perm.length_eq, List.length_map, las]
  -- the heap
  have newA : ∀ t ∈ as, H t = none := fun t ht => I.hok.fresh (Nat.le_of_lt (hG.above t ht))
  have newL : H h'.objs.size = none := I.hok.fresh lowL
  have notL : h'.objs.size ∉ as := fun z => Nat.lt_irrefl _ (hG.there z)
  have lkk : as.length = (ps.map entI).length := by rw [List.length_map]; exact las
  have atP := LiI.putT_at as (ps.map entI) (upd H h'.objs.size (.lst (out.map backV))) lkk nd
  have off : ∀ b, b ∉ as → b ≠ h'.objs.size → LiI.putT (upd H h'.objs.size (.lst (out.map backV))) as (ps.map entI) b = H b := fun b h1 h2 => by rw [LiI.putT_off as _ _ h1, upd_ne h2]
  have kp : ∀ b u, H b = some u → LiI.putT (upd H h'.objs.size (.lst (out.map backV))) as (ps.map entI) b = some u := fun b u e => by
    rw [off b (fun z => by rw [newA b z] at e; cases e) (fun z => by rw [z, newL] at e; cases e)]
    exact e
  have eL : LiI.putT (upd H h'.objs.size (.lst (out.map backV))) as (ps.map entI) h'.objs.size = some (.lst (out.map backV)) := by rw [LiI.putT_off as _ _ notL, upd_same]
  have low : ∀ b o, s.heap.get? b = some o → b ∉ as ∧ b ≠ h'.objs.size := fun b o e => ⟨fun z => absurd (Heap.lt_size e) (Nat.not_lt.mpr (Nat.le_of_lt (hG.above b z))), Nat.ne_of_lt (Nat.lt_of_lt_of_le (Heap.lt_size e) lowL)⟩
  have kS : ∀ b o, s.heap.get? b = some o → (sortedHeap h2 h'.objs.size (as.map Value.ref) out.toArray).get? b = some o := fun b o e => kF b o (low b o e).2 (kb b o e)
  have tupAt : ∀ b ∈ as, ∃ e : Int × Int, pairAt as ps (.ref b) = e ∧ LiI.putT (upd H h'.objs.size (.lst (out.map backV))) as (ps.map entI) b = some (.tup [.int e.1, .int e.2]) ∧
      ∃ t u, (sortedHeap h2 h'.objs.size (as.map Value.ref) out.toArray).get? b = some { cls := .type "tuple", data := .seq #[.int e.1 t, .int e.2 u] } := fun b hb => by
    obtain ⟨j, pk, e1, e2, e3⟩ := LiI.paired_ix atP hb
    obtain ⟨e, t, u, he, hg⟩ := pr j b e1
    rw [List.getElem?_map, he] at e2
    have e4 : entI e = pk := Option.some.inj e2
    refine ⟨e, find_at (0, 0) as ps j b e nd e1 he, by rw [e3, ← e4]; rfl, t, u, kF b _ (kne _ _ hg) (ka _ _ hg)⟩
  refine ⟨.ref h'.objs.size, LiI.putT (upd H h'.objs.size (.lst (out.map backV))) as (ps.map entI), ?_, rfl, q _ h'.objs.size (out.map fun v => (addrV v, pairAt as ps v)) kp newL ?_ ?_ ?_ ?_⟩
  · refine I.call' (ch := []) rfl ⟨fun b o q _ _ _ => kS b o q, fun b o q _ _ _ => ⟨o.slots, kS b o q⟩, fun b o q n _ => ?_, fun b o q _ => ⟨o, kS b o q⟩, fun b xs q => kp b _ q, fun b o u q => kp b _ q, fun b ps q => ⟨#[], by rw [kp b _ q]; simp⟩⟩ (fun b u q => ?_) I.bare fun b z => by simp at z
    · obtain ⟨z1, z2⟩ := low b o q
      rw [off b z1 z2]
      exact n
    · by_cases hb : b ∈ as
      · obtain ⟨e, _, e3, t, u', hg⟩ := tupAt b hb
        rw [e3] at q
        cases q
        exact ⟨by show 2 ≤ sizeLine; decide, [.int e.1 t, .int e.2 u'], .cons ⟨_, rfl⟩ (.cons ⟨_, rfl⟩ .nil), ⟨_, hg, rfl, _, rfl⟩⟩
      · by_cases hb2 : b = h'.objs.size
        · rw [hb2] at q ⊢
          rw [eL] at q
          cases q
          exact ⟨by rw [List.length_map]; omega, out, eF, vals_back (fun v hv => let ⟨b, e, _⟩ := rf v hv; ⟨b, e⟩), heF⟩
        · rw [off b hb hb2] at q
          exact (I.hok b u q).stay (fun d v _ y => kS d v y) (fun d y => kp d _ y) fun d xs y => kp d _ y
  · rw [e2]
    have := o2.perm.map (pairAt as ps)
    rwa [map_pairAt nd las] at this
  · rw [e2, List.pairwise_map]
    exact o1
  · rw [e3]
    exact eL
  · intro t ht
    obtain ⟨v, hv, rfl⟩ := List.mem_map.mp ht
    obtain ⟨b, rfl, hb⟩ := rf v hv
    obtain ⟨e, e1, e3, _⟩ := tupAt b hb
    show _ = some (HO.tup [.int (pairAt as ps (.ref b)).1, .int (pairAt as ps (.ref b)).2])
    rw [e1]
    exact e3
/-! ### min of pairs, with a default -/
theorem best_pair (f : Nat → Int × Int) : ∀ k, argBest (fun i j => SrtO.lexB (f i) (f j)) k ≤ k ∧ ∀ j, j ≤ k → SrtO.lexB (f j) (f (argBest (fun i j => SrtO.lexB (f i) (f j)) k)) = false
  | 0 => ⟨Nat.le_refl _, fun j hj => by
    obtain rfl : j = 0 := Nat.le_zero.mp hj
    show SrtO.lexB (f 0) (f 0) = false
    exact SrtO.lexB_no.mpr (by omega)⟩
  | k + 1 => by
    obtain ⟨h1, h2⟩ := best_pair f k
    unfold argBest
    cases c : SrtO.lexB (f (k + 1)) (f (argBest (fun i j => SrtO.lexB (f i) (f j)) k)) with
    | true =>
      simp only [if_true]
      refine ⟨Nat.le_refl _, fun j hj => ?_⟩
      rcases Nat.lt_or_ge k j with q | q
      · obtain rfl : j = k + 1 := by omega
        exact SrtO.lexB_no.mpr (by omega)
      · have a := SrtO.lexB_no.mp (h2 j q)
        have b := SrtO.lexB_iff.mp c
        exact SrtO.lexB_no.mpr (by omega)
    | false =>
      simp only [Bool.false_eq_true, if_false]
      refine ⟨Nat.le_succ_of_le h1, fun j hj => ?_⟩
      rcases Nat.lt_or_ge k j with q | q
      · obtain rfl : j = k + 1 := by omega
        exact c
      · exact h2 j q
theorem lexLt_pair (a b : Int × Int) : HT.lexLt [a.1, a.2] [b.1, b.2] = SrtO.lexB a b := by
  rw [HT.lexLt_cons, HT.lexLt_cons, HT.lexLt_nil_nil]
  unfold SrtO.lexB
  split
  · split
    · rename_i h
      rw [h, decide_eq_false (Int.lt_irrefl _)]
    · rfl
  · rfl
def rMinTD (K : PySem.W.Frag) : List V → List V → Hp → VK → Prop := fun vs zs H Q => ∃ (a : Addr) (L : List (Addr × Int × Int)) (d : V), vs = [V.ref a] ∧ zs = [d] ∧ SqL K H a (L.map fun p => V.ref p.1) ∧ (∀ p ∈ L, SqT K H p.1 [.int p.2.1, .int p.2.2]) ∧
  (L = [] → Q d H) ∧ ∀ p, p ∈ L → (∀ q, q ∈ L → SrtO.lexB q.2 p.2 = false) → Q (.ref p.1) H
theorem refs_eq : ∀ {L : List (Addr × Int × Int)} {us : List Value}, Vals (L.map fun p => V.ref p.1) us → us = L.map fun p => Value.ref p.1
  | [], _, .nil => rfl
  | p :: L, _, .cons r1 r2 => by
    cases r1
    rw [refs_eq r2]; rfl
theorem cr_minTD {X : Cx} (hc : X.calm = true) (hu : X.A.units + 64 < cLine) : CallRK X (.builtin "min") ["default"] (rMinTD X.K) := by
  intro pins s σ H vs zs us ws Q I r rz h
  obtain ⟨a, L, d, rfl, rfl, hs, ht, q0, q1⟩ := h
  obtain ⟨its, rv, hl, _⟩ := I.list hs
  obtain rfl := Vals.ref1 r
  have eits := refs_eq rv
  cases rz with
  | @cons _ dv _ _ rd rr =>
    cases rr
    have hn : its.toArray.size = L.length := by rw [List.size_toArray, eits, List.length_map]
    refine call_min_walkD (PySem.W.iter_listW (A := X.A.in1) (I.ok.hd hc) hl.isList fun s₂ es W st hfp hw hk => ?_)
    refine ⟨_, _, _, _, _, _, _, s.heap, (fun i j => SrtO.lexB (L.getD i (0, 0, 0)).2 (L.getD j (0, 0, 0)).2), rfl, W, st, hfp, hw, hk, fun hz s' m => ?_, fun hp => ⟨fun i j vi vj s3 Q3 E3 keep hi hj q => ?_, fun v s' hP m => ?_⟩⟩
    · obtain ⟨h', tk, rfl, hk'⟩ := PySem.W.moved_old es rfl m
      exact ⟨d, H, I.kept hk', rd, q0 (List.eq_nil_of_length_eq_zero (by omega))⟩
    · have at_ : ∀ (i : Nat) (v : Value), its.toArray[i]? = some v → ∃ (p : Addr × Int × Int) (o : Obj) (n : Nat) (t u : Tok), L.getD i (0, 0, 0) = p ∧ v = .ref p.1 ∧ s3.heap.get? p.1 = some o ∧ o.cls = .type "tuple" ∧ o.data = .seq #[.int p.2.1 t, .int p.2.2 u] n := fun i v hv => by
        have hv' : (L.map fun p => Value.ref p.1)[i]? = some v := by rw [← eits]; simpa using hv
        rw [List.getElem?_map] at hv'
        obtain ⟨p, hp', rfl⟩ := Option.map_eq_some_iff.mp hv'
        obtain ⟨its2, r2, ⟨o, ho, hcl, n, hd⟩, _⟩ := I.tuple (ht p (List.mem_of_getElem? hp'))
        obtain ⟨u1, u2, rfl, ⟨t1, rfl⟩, t2, rfl⟩ := vals2 r2
        refine ⟨p, o, n, t1, t2, ?_, rfl, keep _ _ ho, hcl, hd⟩
        rw [List.getD_eq_getElem?_getD, hp']; rfl
      obtain ⟨p1, o1, n1, t1, u1, f1, rfl, g1, g2, g3⟩ := at_ i vi hi
      obtain ⟨p2, o2, n2, t2, u2, f2, rfl, k1, k2, k3⟩ := at_ j vj hj
      dsimp only at q
      rw [f1, f2, ← lexLt_pair] at q
      exact HT.lt_tupInts (s := s3) (items := #[.int p1.2.1 t1, .int p1.2.2 u1]) (items2 := #[.int p2.2.1 t2, .int p2.2.2 u2]) ⟨o1, g1, g2, n1, g3⟩ ⟨o2, k1, k2, n2, k3⟩ (.cons _ _ (.cons _ _ .nil)) (.cons _ _ (.cons _ _ .nil)) (by show X.A.units + 1 < cLine; omega) q
    · obtain ⟨h', tk, rfl, hk'⟩ := PySem.W.moved_old es rfl m
      obtain ⟨b1, b2⟩ := best_pair (fun i => (L.getD i (0, 0, 0)).2) (its.toArray.size - 1)
      generalize argBest (fun i j => SrtO.lexB (L.getD i (0, 0, 0)).2 (L.getD j (0, 0, 0)).2) (its.toArray.size - 1) = m0 at hP b1 b2
      have hm : m0 < L.length := by omega
      have hv : v = .ref L[m0].1 := by
        have hv' : (L.map fun p => Value.ref p.1)[m0]? = some v := by rw [← eits]; simpa using hP
        rw [List.getElem?_map, List.getElem?_eq_getElem hm] at hv'
        exact (Option.some.inj hv').symm
      subst hv
      refine ⟨.ref L[m0].1, H, I.kept hk', rfl, q1 _ (List.getElem_mem hm) fun p hp => ?_⟩
      obtain ⟨j, hj⟩ := List.mem_iff_getElem?.mp hp
      have := b2 j (by have := (List.getElem?_eq_some_iff.mp hj).1; omega)
      rw [List.getD_eq_getElem?_getD, List.getD_eq_getElem?_getD, hj, List.getElem?_eq_getElem hm] at this
      exact this
/-! ### set(xs), xs a list of ints -/
section
variable {P : Program} {w : World} {A : Around} {E : Value → Shared → Prop} {s : Shared}
/-- a new object of a built-in class, its __init__ behind a check of its own -/
theorem type_made {T newId initId : String} {Bi : Builtin} {args : List Value} {Q Q₁ : Value → Shared → Prop} (ft : TypeCalled T newId initId) (hct : checkTypeCall T ⟨args, []⟩ = pure ()) (entryI : entryFor table initId = some Bi)
    (hnew : codeAny (model P w) A.in1 (.call (.builtin newId) ⟨.type T :: args, []⟩) (wants Q₁ E) s)
    (hnext : ∀ obj s₁, Q₁ obj s₁ → s₁.TypeIs obj T ∧ ∀ R : Result → Shared → Prop, (∀ r s₂, R (.ok (.ret r)) s₂ ↔ (r = .none ∧ Q obj s₂)) → (∀ e s₂, R (.error e) s₂ → E e s₂) → (∀ f s₂, R (.ok f) s₂ → ∃ r, f = .ret r) →
      codeAny (model P w) A.in1 (.call (.builtin initId) ⟨obj :: args, []⟩) R s₁) :
    wpAny (model P w) A (call (.type T) args) Q E s := by
  obtain ⟨cm, rest, hm⟩ := ft.mro
  have g1 := ft.made
  have g2 := ft.sub
  have g3 := ft.notType
  have g4 := ft.canCreate
  refine wpAny_call (codeAny_of_tree (wpAny_pure (?_ : _ ∧ _)))
  refine ⟨Code.quiet_builtin _ (by decide +kernel), codeAny_builtin F.entry_type_call ?_⟩
  rw [Around.under_plain (weight_type_call_type T args []) rfl]
  repeat (any_goals (first | assumption | wp_step))
  refine codeAny_mono hnew fun r s₁ hr => ?_
  rcases r with e | fl
  · exact hr
  · cases fl with
    | ret obj =>
      obtain ⟨hT, hi⟩ := hnext _ _ hr
      have g5 := ft.init.lookup
      have g6 := ft.init.bind obj
      repeat (any_goals (first | assumption | wp_step))
      refine codeAny_mono (hi (wants (fun r s₂ => r = .none ∧ Q obj s₂) E) (fun r s₂ => Iff.rfl) (fun e s₂ h => h) fun f s₂ h => ?_) fun r₂ s₂ hr₂ => ?_
      · cases f with
        | ret r => exact ⟨r, rfl⟩
        | _ => exact h.elim
      · rcases r₂ with e | fl₂
        · exact hr₂
        · cases fl₂ with
          | ret r =>
            obtain ⟨rfl, hq⟩ := hr₂
            repeat (any_goals (first | assumption | wp_step))
          | _ => exact hr₂.elim
    | _ => exact hr.elim
abbrev setO0 (w : World) : Obj := { cls := .type "set", dict := none, data := .set #[] 0 (.fresh 0 0 (!w.params.followText "set-order")) }
theorem set_of_ints {l : Addr} {items : Array Value} (ns : List Int) {Q : Value → Shared → Prop} (hh : A.handled = none) (hl : s.heap.IsList l items) (hit : IntsAre items.toList ns) (hb : ns.length + 1 < scanBound)
    (h : ∀ (h' : Heap) (tk c : Nat), SetR w h' s.heap.objs.size (fun j => decide (j ∈ ns)) c → c ≤ ns.length → (∀ b o, s.heap.get? b = some o → h'.get? b = some o) → Q (.ref s.heap.objs.size) { s with heap := h', toks := tk }) :
    wpAny (model P w) A (call (.type "set") [.ref l]) Q E s := by
  have hsz : items.size = ns.length := by rw [← Array.length_toList]; exact IntsAre.length hit
  refine type_made (Q₁ := fun obj s₁ => obj = .ref s.heap.objs.size ∧ s₁ = { s with heap := s.heap.push (setO0 w) }) F.called_set (F.typeCall_set_1 _) F.entry_set_init
    (code_set_led1 _ ⟨rfl, rfl⟩) fun obj s₁ e => ?_
  obtain ⟨rfl, rfl⟩ := e
  have hS : (s.heap.push (setO0 w)).get? s.heap.objs.size = some (setO0 w) := Heap.get?_push_size _ rfl
  have hT : Shared.TypeIs { s with heap := s.heap.push (setO0 w) } (.ref s.heap.objs.size) "set" := ⟨_, hS, rfl⟩
  refine ⟨hT, fun R r1 r2 r3 => codeAny_call_builtin F.called_set.init.plain F.entry_set_init (check_set_init_1 hT ?_)⟩
  have hl0 := hl
  obtain ⟨⟨lc, ld, ldt, lsl⟩, hol, hcl, nl, hdl⟩ := hl
  simp only at hcl hdl
  subst hcl hdl
  have hol' : (s.heap.push (setO0 w)).get? l = some { cls := .type "list", dict := ld, data := .seq items nl, slots := lsl } := Heap.get?_push_of_some _ hol
  have hl1 : (s.heap.push (setO0 w)).IsList l items := ⟨_, hol', rfl, nl, rfl⟩
  have q1 := F.sub_list_set
  have q2 := F.sub_list_frozenset
  have q3 : (Value.type "list" == Value.type "dict") = false := by decide
  unfold Builtin.«set.__init__» noKeywords Builtin.Frozenset.updateFrom
  generalize hPI : pyIter = PI
  wp_walk
  subst hPI
  have hlt : l < s.heap.objs.size := Heap.lt_size hol
  have hs1 : (s.heap.push (setO0 w)).objs.size = s.heap.objs.size + 1 := Heap.size_push ..
  have hns : s.heap.objs.size ∉ [(s.heap.push (setO0 w)).objs.size, l] := by
    rw [hs1]
    intro z
    rcases List.mem_cons.mp z with z | z
    · exact absurd z (Nat.ne_of_lt (Nat.lt_succ_self _))
    · exact absurd (List.mem_singleton.mp z) (Nat.ne_of_gt hlt)
  refine wpAny_pyIter_list hl1 (wpAny_bind (wpAny_runValue ?_))
  refine set_update_ints ((Walks.list (by simp [hh]) _ l (by rw [hs1]; exact Nat.ne_of_lt (Nat.lt_succ_of_lt hlt)) items).toS) s.heap.objs.size hns ns hsz hb (fun i v hv => ?_) (items.size - 0) 0 _ (by omega) (Nat.zero_le _) ⟨⟨_, Heap.get?_push_size _ rfl, rfl, rfl⟩, hl1.push _⟩
    ⟨0, Nat.le_refl 0, setR_new_at (Heap.get?_push_of_some _ hS)⟩ fun s' c hm hc hS' => ?_
  · have hi : i < ns.length := by rw [← hsz]; exact (Array.getElem?_eq_some_iff.mp hv).1
    obtain ⟨t, e⟩ := PyProof.Rows.IntsAre.int_at hit i v (by rw [Array.getElem?_toList]; exact hv)
    exact ⟨ns[i], t, List.getElem?_eq_getElem hi, by rw [e, List.getD_eq_getElem?_getD, List.getElem?_eq_getElem hi]; rfl⟩
  · obtain ⟨h', g2, d', tk', os'⟩ := s'
    obtain rfl : g2 = s.gens := hm.gens
    obtain rfl : d' = s.drawn := hm.drawn
    obtain rfl : os' = s.os := hm.os
    refine wpAny_pure (wpAny_pure ?_)
    refine (r1 _ _).mpr ⟨rfl, h h' tk' c hS' (by rw [← hsz]; exact hc) fun b o e => ?_⟩
    have hb0 : b < s.heap.objs.size := Heap.lt_size e
    refine hm.heap b o (fun z => ?_) (Heap.get?_push_of_some _ (Heap.get?_push_of_some _ e))
    rcases List.mem_cons.mp z with z | z
    · exact absurd z (Nat.ne_of_lt hb0)
    · rw [List.mem_singleton.mp z, hs1] at hb0
      exact absurd hb0 (Nat.not_lt.mpr (Nat.le_succ _))
end
theorem few_of (B : Nat) (l : List Int) (nd : l.Nodup) (h : ∀ k ∈ l, 0 ≤ k ∧ k < (B : Int)) : l.length ≤ B := by
  have q := nd.length_le_of_subset (l₂ := (List.range B).map fun n : Nat => (n : Int)) fun k hk => List.mem_map.mpr ⟨k.toNat, List.mem_range.mpr (by have := h k hk; omega), by have := h k hk; omega⟩
  rwa [List.length_map, List.length_range] at q
def rSetOfI (K : PySem.W.Frag) (w : World) : List V → Hp → VK → Prop := fun xs H Q => ∃ (l : Addr) (ns : List Int), xs = [V.ref l] ∧ SqL K H l (ns.map V.int) ∧ ns.length + 1 < 4096 ∧
  ∀ a c, H a = none → (∀ B : Nat, (∀ k ∈ ns, 0 ≤ k ∧ k < (B : Int)) → c ≤ B) → Q (.ref a) (upd H a (SetO w a (fun j => decide (j ∈ ns)) c))
theorem cr_setOfI {X : Cx} (hc : X.calm = true) : CallR X (.type "set") (rSetOfI X.K X.w) := by
  intro pins s σ H xs us Q I r h
  obtain ⟨l, ns, rfl, hl, hf, q⟩ := h
  rw [Vals.ref1 r]
  obtain ⟨its, rv, pl, hz⟩ := I.list hl
  refine set_of_ints (P := X.prog) (w := X.w) ns (I.ok.hd hc) pl.isList (by simpa using rv.ints) hf fun h' tk c R hc k => ?_
  refine ⟨.ref s.heap.objs.size, _, I.laid (t' := tk) k (Nat.le_refl _) (setO_new R), rfl, q _ c (I.hok.fresh (Nat.le_refl _)) fun B hB => ?_⟩
  obtain ⟨o, es, ep, t, _, _, _, _, nd, hm, _, _, hn, _⟩ := R
  rw [← hn, ← Array.length_toList, ← List.length_map (f := keyOf)]
  exact few_of B _ nd fun k hk => hB k (of_decide_eq_true ((hm k).mpr hk))
end Bk
end
section
/-! texts and tokens: plain lists -/
namespace Bk
open PySem hiding Tok
open VamvsBase (isBlank isDigit isLetter token lex Tok PTok Toks numberOf decimal SIGNS RESERVED word tokEq NAME NUMBER)
theorem u8_all {p : UInt8 → Bool} (h : ∀ n, n < 256 → p (UInt8.ofNat n) = true) (b : UInt8) : p b = true := by
  have q := h b.toNat b.toNat_lt
  rwa [UInt8.ofNat_toNat] at q
def known (b : UInt8) : Bool := isLetter b || isDigit b || SIGNS.contains b || isBlank b || b == 35
/-- a byte as a sign of the text: one that begins nothing is a question mark -/
def sgn (b : UInt8) : Nat := if known b = true then b.toNat else 63
def tx (l : List UInt8) : Str := ⟨(l.map sgn).toArray⟩
theorem tx_len (l : List UInt8) : (tx l).length = l.length := by show (l.map sgn).toArray.size = _; simp
theorem tx_size (l : List UInt8) : (tx l).cps.size = l.length := tx_len l
theorem tx_list (l : List UInt8) : (tx l).cps.toList = l.map sgn := rfl
def dCodes : List Nat := [48, 49, 50, 51, 52, 53, 54, 55, 56, 57]
def lCodes : List Nat := (List.range 26).map (65 + ·) ++ (List.range 26).map (97 + ·)
theorem sgn_blank (b : UInt8) : decide (sgn b ∈ [32, 9, 10]) = isBlank b := by
  have h := u8_all (p := fun b => decide (sgn b ∈ [32, 9, 10]) == isBlank b) (by decide +kernel) b
  simpa using h
theorem sgn_hash (b : UInt8) : decide (sgn b = 35) = (b == 35) := by
  have h := u8_all (p := fun b => decide (sgn b = 35) == (b == 35)) (by decide +kernel) b
  simpa using h
theorem sgn_nl (b : UInt8) : decide (sgn b = 10) = (b == 10) := by
  have h := u8_all (p := fun b => decide (sgn b = 10) == (b == 10)) (by decide +kernel) b
  simpa using h
theorem sgn_digit (b : UInt8) : decide (sgn b ∈ dCodes) = isDigit b := by
  have h := u8_all (p := fun b => decide (sgn b ∈ dCodes) == isDigit b) (by decide +kernel) b
  simpa using h
theorem sgn_letter (b : UInt8) : decide (sgn b ∈ lCodes) = isLetter b := by
  have h := u8_all (p := fun b => decide (sgn b ∈ lCodes) == isLetter b) (by decide +kernel) b
  simpa using h
theorem sgn_ld (b : UInt8) : decide (sgn b ∈ lCodes ++ dCodes) = (isLetter b || isDigit b) := by
  have h := u8_all (p := fun b => decide (sgn b ∈ lCodes ++ dCodes) == (isLetter b || isDigit b)) (by decide +kernel) b
  simpa using h
theorem sgn_sign (b : UInt8) : decide (sgn b ∈ [44, 58, 59, 45]) = SIGNS.contains b := by
  have h := u8_all (p := fun b => decide (sgn b ∈ [44, 58, 59, 45]) == SIGNS.contains b) (by decide +kernel) b
  simpa using h
theorem sgn_known {b : UInt8} (h : known b = true) : sgn b = b.toNat := by unfold sgn; rw [if_pos h]
theorem known_ld {b : UInt8} (h : (isLetter b || isDigit b) = true) : known b = true := by
  unfold known; simp only [Bool.or_eq_true] at h ⊢; exact Or.inl (Or.inl (Or.inl h))
theorem letter_not_digit (b : UInt8) (h : isLetter b = true) : isDigit b = false := by
  have q := u8_all (p := fun b => !isLetter b || !isDigit b) (by decide +kernel) b
  simpa [h] using q
theorem sign_not (b : UInt8) (h : SIGNS.contains b = true) : isLetter b = false ∧ isDigit b = false := by
  have q := u8_all (p := fun b => !SIGNS.contains b || (!isLetter b && !isDigit b)) (by decide +kernel) b
  rw [h] at q
  simpa using q
theorem sign_known {b : UInt8} (h : SIGNS.contains b = true) : sgn b = b.toNat := by
  refine sgn_known ?_
  unfold known; simp only [Bool.or_eq_true]; exact Or.inl (Or.inl (Or.inr h))
/-- the codes in a are those for which f holds -/
theorem run_tw {a : List Nat} {f : UInt8 → Bool} (h : ∀ b, decide (sgn b ∈ a) = f b) : ∀ l : List UInt8, ((l.map sgn).takeWhile fun c => decide (c ∈ a)) = (l.takeWhile f).map sgn
  | [] => rfl
  | b :: r => by
    rw [List.map_cons, List.takeWhile_cons, List.takeWhile_cons, h b]
    cases f b with
    | true => simp only [if_true, List.map_cons]; rw [run_tw h r]
    | false => simp
/-! ### tokens -/
def wfTok : Tok → Prop
  | .name b => b ≠ [] ∧ b.length ≤ 16 ∧ ∀ c ∈ b, (isLetter c || isDigit c) = true
  | .num n => n ≤ 1000000000
  | .sign c => c ∈ [44, 58, 59, 45]
  | .last => False
theorem mem_tw {f : UInt8 → Bool} : ∀ {l : List UInt8} {x : UInt8}, x ∈ l.takeWhile f → f x = true
  | [], _, h => by simp at h
  | b :: r, x, h => by
    rw [List.takeWhile_cons] at h
    cases hb : f b with
    | true =>
      rw [hb, if_pos rfl] at h
      rcases List.mem_cons.mp h with e | h
      · rw [e]; exact hb
      · exact mem_tw h
    | false => rw [hb, if_neg (by decide)] at h; simp at h
theorem tw_len {f : UInt8 → Bool} (l : List UInt8) : (l.takeWhile f).length ≤ l.length := (List.takeWhile_sublist f).length_le
theorem tw_take {f : UInt8 → Bool} : ∀ l : List UInt8, l.take (l.takeWhile f).length = l.takeWhile f
  | [] => rfl
  | b :: r => by
    rw [List.takeWhile_cons]
    cases hb : f b with
    | true => simp only [if_true, List.length_cons, List.take_succ_cons]; rw [tw_take r]
    | false => simp
theorem tw_drop {f : UInt8 → Bool} : ∀ l : List UInt8, l.drop (l.takeWhile f).length = l.dropWhile f
  | [] => rfl
  | b :: r => by
    rw [List.takeWhile_cons, List.dropWhile_cons]
    cases hb : f b with
    | true => simp only [if_true, List.length_cons, List.drop_succ_cons]; rw [tw_drop r]
    | false => simp
theorem token_letter {b : UInt8} {r : List UInt8} (h : isLetter b = true) : token (b :: r) = if 16 < ((b :: r).takeWhile fun c => isLetter c || isDigit c).length then none else some (.name ((b :: r).takeWhile fun c => isLetter c || isDigit c), ((b :: r).takeWhile fun c => isLetter c || isDigit c).length) := by
  unfold token
  simp only [h, if_true]
  rfl
theorem token_digit {b : UInt8} {r : List UInt8} (h : isDigit b = true) : token (b :: r) = (numberOf ((b :: r).takeWhile isDigit)).map fun n => (.num n, ((b :: r).takeWhile isDigit).length) := by
  unfold token
  have h' : isLetter b = false := by
    cases q : isLetter b with
    | false => rfl
    | true => rw [letter_not_digit b q] at h; cases h
  simp only [h, h', if_true, Bool.false_eq_true, if_false]
theorem token_sign {b : UInt8} {r : List UInt8} (h : SIGNS.contains b = true) : token (b :: r) = some (.sign b.toNat, 1) := by
  unfold token
  obtain ⟨h1, h2⟩ := sign_not b h
  simp only [h1, h2, h, if_true, Bool.false_eq_true, if_false]
theorem token_none {b : UInt8} {r : List UInt8} (h1 : isLetter b = false) (h2 : isDigit b = false) (h3 : SIGNS.contains b = false) : token (b :: r) = none := by
  unfold token
  simp only [h1, h2, h3, Bool.false_eq_true, if_false]
theorem tw_pos {f : UInt8 → Bool} {b : UInt8} {r : List UInt8} (h : f b = true) : 1 ≤ ((b :: r).takeWhile f).length := by
  rw [List.takeWhile_cons, if_pos h, List.length_cons]; omega
theorem sign_codes (b : UInt8) (h : SIGNS.contains b = true) : b.toNat ∈ [44, 58, 59, 45] := by
  have q := u8_all (p := fun b => !SIGNS.contains b || decide (b.toNat ∈ [44, 58, 59, 45])) (by decide +kernel) b
  rw [h] at q
  simpa using q
/-- what a token's text is like, and how long -/
theorem token_ok {b : UInt8} {r : List UInt8} {t : Tok} {k : Nat} (h : token (b :: r) = some (t, k)) : wfTok t ∧ 1 ≤ k ∧ k ≤ (b :: r).length := by
  cases h1 : isLetter b with
  | true =>
    rw [token_letter h1] at h
    split at h
    · cases h
    · rename_i hl
      injection h with h
      injection h with e1 e2
      subst e1 e2
      refine ⟨⟨?_, by omega, fun c hc => mem_tw hc⟩, tw_pos (by rw [h1]; rfl), tw_len _⟩
      intro z
      have := tw_pos (f := fun c => isLetter c || isDigit c) (b := b) (r := r) (by rw [h1]; rfl)
      rw [z] at this
      simp at this
  | false =>
    cases h2 : isDigit b with
    | true =>
      rw [token_digit h2] at h
      cases hn : numberOf ((b :: r).takeWhile isDigit) with
      | none => rw [hn] at h; cases h
      | some n =>
        rw [hn] at h
        injection h with h
        injection h with e1 e2
        subst e1 e2
        refine ⟨?_, tw_pos h2, tw_len _⟩
        unfold numberOf at hn
        split at hn
        · cases hn
        · rename_i q
          injection hn with hn
          show n ≤ 1000000000
          have : ¬ NUMBER < decimal ((b :: r).takeWhile isDigit) := fun z => q (Or.inr (Or.inr (Or.inr z)))
          rw [hn] at this
          exact Nat.le_of_not_lt this
    | false =>
      cases h3 : SIGNS.contains b with
      | true =>
        rw [token_sign h3] at h
        injection h with h
        injection h with e1 e2
        subst e1 e2
        exact ⟨sign_codes b h3, Nat.le_refl _, by simp⟩
      | false => rw [token_none h1 h2 h3] at h; cases h
/-- enough is enough -/
theorem lex_fuel : ∀ (n m at_ : Nat) (l : List UInt8), l.length < n → l.length < m → lex n at_ l = lex m at_ l
  | 0, _, _, _, h, _ => absurd h (Nat.not_lt_zero _)
  | _ + 1, 0, _, _, _, h => absurd h (Nat.not_lt_zero _)
  | _ + 1, _ + 1, _, [], _, _ => rfl
  | n + 1, m + 1, at_, b :: r, h1, h2 => by
    rw [List.length_cons] at h1 h2
    unfold lex
    split
    · exact lex_fuel n m _ r (by omega) (by omega)
    · split
      · have q : (r.dropWhile (· != 10)).length ≤ r.length := (List.dropWhile_sublist _).length_le
        exact lex_fuel n m _ _ (by omega) (by omega)
      · cases ht : token (b :: r) with
        | none => rfl
        | some x =>
          obtain ⟨t, k⟩ := x
          obtain ⟨_, k1, _⟩ := token_ok ht
          have q : ((b :: r).drop k).length < n ∧ ((b :: r).drop k).length < m := by
            rw [List.length_drop, List.length_cons]; omega
          show (lex n (at_ + k) ((b :: r).drop k)).map _ = (lex m (at_ + k) ((b :: r).drop k)).map _
          rw [lex_fuel n m _ _ q.1 q.2]
def lexF (at_ : Nat) (l : List UInt8) : Except VamvsBase.Fault Toks := lex (l.length + 1) at_ l
theorem lexF_nil (a : Nat) : lexF a [] = .ok [⟨a, .last⟩] := rfl
theorem lexF_blank {a : Nat} {b : UInt8} {r : List UInt8} (h : isBlank b = true) : lexF a (b :: r) = lexF (a + 1) r := by
  unfold lexF
  show lex (r.length + 1 + 1) a (b :: r) = _
  rw [lex, if_pos h]
theorem lexF_hash {a : Nat} {r : List UInt8} : lexF a (35 :: r) = lexF (a + 1 + (r.takeWhile (· != 10)).length) (r.dropWhile (· != 10)) := by
  unfold lexF
  show lex (r.length + 1 + 1) a (35 :: r) = _
  rw [lex, if_neg (by decide), if_pos (by decide)]
  have q : (r.dropWhile (· != 10)).length ≤ r.length := (List.dropWhile_sublist _).length_le
  exact lex_fuel _ _ _ _ (by omega) (by omega)
theorem lexF_tok {a : Nat} {b : UInt8} {r : List UInt8} (h1 : isBlank b = false) (h2 : b ≠ 35) : lexF a (b :: r) = match token (b :: r) with
    | none => .error ⟨2, a⟩
    | some x => (lexF (a + x.2) ((b :: r).drop x.2)).map fun l => ⟨a, x.1⟩ :: l := by
  unfold lexF
  show lex (r.length + 1 + 1) a (b :: r) = _
  rw [lex, if_neg (by rw [h1]; decide), if_neg (by simpa using h2)]
  cases ht : token (b :: r) with
  | none => rfl
  | some x =>
    obtain ⟨t, k⟩ := x
    obtain ⟨_, k1, _⟩ := token_ok ht
    have q : ((b :: r).drop k).length < r.length + 1 := by rw [List.length_drop, List.length_cons]; omega
    show (lex (r.length + 1) (a + k) ((b :: r).drop k)).map _ = (lex (((b :: r).drop k).length + 1) (a + k) ((b :: r).drop k)).map _
    rw [lex_fuel _ _ _ _ q (Nat.lt_succ_self _)]
/-- a text's tokens: well formed, the text's end behind them -/
inductive TL : Toks → Prop where
  | last (p : Nat) : TL [⟨p, .last⟩]
  | cons {p : Nat} {t : Tok} {r : Toks} (h : wfTok t) (hr : TL r) : TL (⟨p, t⟩ :: r)
theorem lex_TL : ∀ (n at_ : Nat) (l : List UInt8) (ts : Toks), lex n at_ l = .ok ts → TL ts
  | 0, at_, _, ts, h => by
    have e := Except.ok.inj h
    subst e
    exact .last _
  | _ + 1, at_, [], ts, h => by
    have e := Except.ok.inj h
    subst e
    exact .last _
  | n + 1, at_, b :: r, ts, h => by
    unfold lex at h
    split at h
    · exact lex_TL n _ _ _ h
    · split at h
      · exact lex_TL n _ _ _ h
      · cases ht : token (b :: r) with
        | none => rw [ht] at h; cases h
        | some x =>
          obtain ⟨t, k⟩ := x
          rw [ht] at h
          cases hl : lex n (at_ + k) ((b :: r).drop k) with
          | error e => simp only [hl] at h; cases h
          | ok l' =>
            simp only [hl] at h
            have e := Except.ok.inj h
            subst e
            exact .cons (token_ok ht).1 (lex_TL n _ _ _ hl)
theorem TL.ne {ts : Toks} (h : TL ts) : ts ≠ [] := by cases h <;> simp
/-- neither a blank nor a remark stands here -/
def Clear (r : List UInt8) : Prop := r = [] ∨ ∃ b t, r = b :: t ∧ isBlank b = false ∧ b ≠ 35
theorem lex_places : ∀ (n at_ : Nat) (l : List UInt8) (ts : Toks), lex n at_ l = .ok ts → ∀ x ∈ ts, x.place ≤ at_ + l.length
  | 0, at_, l, ts, h, x, hx => by
    have e := Except.ok.inj h
    subst e
    rw [List.mem_singleton.mp hx]
    exact Nat.le_add_right _ _
  | _ + 1, at_, [], ts, h, x, hx => by
    have e := Except.ok.inj h
    subst e
    rw [List.mem_singleton.mp hx]
    exact Nat.le_add_right _ _
  | n + 1, at_, b :: r, ts, h, x, hx => by
    unfold lex at h
    split at h
    · have := lex_places n _ _ _ h x hx
      rw [List.length_cons]; omega
    · split at h
      · have := lex_places n _ _ _ h x hx
        have q : (r.takeWhile (· != 10)).length + (r.dropWhile (· != 10)).length = r.length := by rw [← List.length_append, List.takeWhile_append_dropWhile]
        rw [List.length_cons]; omega
      · cases ht : token (b :: r) with
        | none => rw [ht] at h; cases h
        | some y =>
          obtain ⟨t, k⟩ := y
          rw [ht] at h
          cases hl : lex n (at_ + k) ((b :: r).drop k) with
          | error e => simp only [hl] at h; cases h
          | ok l' =>
            simp only [hl] at h
            have e := Except.ok.inj h
            subst e
            have hk := (token_ok ht).2.2
            rcases List.mem_cons.mp hx with z | z
            · rw [z]; exact Nat.le_add_right _ _
            · have := lex_places n _ _ _ hl x z
              rw [List.length_drop] at this
              omega
end Bk
end
section
/-! tables: plain lists -/
namespace Bk
open PySem hiding Tok
open VamvsBase (isBlank isDigit isLetter token lex Tok PTok Toks numberOf decimal SIGNS RESERVED word tokEq NAME NUMBER next nextWord taken takeWord takeSign takeName wrong here PName)
open Vamvsa (takeColumns takeNat takeValues takeInt takeAsked takeTimes takeAsk takeLines Table Row Ask COLUMNS ROWS ASKS VALUE SIZE TIMES)
abbrev Fault := VamvsBase.Fault
/-! what a token's object holds -/
def kindOf : Tok → Str
  | .name b => if RESERVED.contains b = true then tx b else Str.ofString "name"
  | .num _ => Str.ofString "number"
  | .sign n => ⟨#[n]⟩
  | .last => Str.ofString "end"
theorem reserved_cases {b : List UInt8} (h : RESERVED.contains b = true) : b = word "columns" ∨ b = word "row" ∨ b = word "ask" ∨ b = word "times" := by
  have q : List.contains [word "columns", word "row", word "ask", word "times"] b = true := h
  simpa [List.contains_cons] using q
theorem kind_name {t : Tok} : kindOf t = Str.ofString "name" ↔ ∃ b, t = .name b ∧ RESERVED.contains b = false := by
  constructor
  · intro h
    cases t with
    | name b =>
      cases hr : RESERVED.contains b with
      | false => exact ⟨b, rfl, hr⟩
      | true =>
        exfalso
        have e : kindOf (.name b) = tx b := if_pos hr
        rw [e] at h
        rcases reserved_cases hr with z | z | z | z <;> subst z <;> revert h <;> decide +kernel
    | num n => exact absurd h (by show ¬ Str.ofString "number" = _; decide +kernel)
    | sign n => exact absurd (congrArg (fun s : Str => s.cps.size) h) (by show ¬ 1 = 4; decide)
    | last => exact absurd h (by show ¬ Str.ofString "end" = _; decide +kernel)
  · rintro ⟨b, rfl, h⟩
    exact if_neg (by rw [h]; decide)
theorem kind_num {t : Tok} : kindOf t = Str.ofString "number" ↔ ∃ n, t = .num n := by
  constructor
  · intro h
    cases t with
    | name b =>
      exfalso
      cases hr : RESERVED.contains b with
      | false =>
        have e : kindOf (.name b) = Str.ofString "name" := if_neg (by rw [hr]; decide)
        rw [e] at h
        revert h; decide +kernel
      | true =>
        have e : kindOf (.name b) = tx b := if_pos hr
        rw [e] at h
        rcases reserved_cases hr with z | z | z | z <;> subst z <;> revert h <;> decide +kernel
    | num n => exact ⟨n, rfl⟩
    | sign n => exact absurd (congrArg (fun s : Str => s.cps.size) h) (by show ¬ 1 = 6; decide)
    | last => exact absurd h (by show ¬ Str.ofString "end" = _; decide +kernel)
  · rintro ⟨n, rfl⟩
    rfl
theorem kind_last {t : Tok} : kindOf t = Str.ofString "end" ↔ t = .last := by
  constructor
  · intro h
    cases t with
    | name b =>
      exfalso
      cases hr : RESERVED.contains b with
      | false =>
        have e : kindOf (.name b) = Str.ofString "name" := if_neg (by rw [hr]; decide)
        rw [e] at h
        revert h; decide +kernel
      | true =>
        have e : kindOf (.name b) = tx b := if_pos hr
        rw [e] at h
        rcases reserved_cases hr with z | z | z | z <;> subst z <;> revert h <;> decide +kernel
    | num n => exact absurd h (by show ¬ Str.ofString "number" = _; decide +kernel)
    | sign n => exact absurd (congrArg (fun s : Str => s.cps.size) h) (by show ¬ 1 = 3; decide)
    | last => rfl
  · intro h
    rw [h]
    rfl
theorem kind_sign {t : Tok} {n : Nat} : kindOf t = ⟨#[n]⟩ ↔ t = .sign n := by
  constructor
  · intro h
    cases t with
    | name b =>
      exfalso
      have hs := congrArg (fun s : Str => s.cps.size) h
      cases hr : RESERVED.contains b with
      | false =>
        have e : kindOf (.name b) = Str.ofString "name" := if_neg (by rw [hr]; decide)
        rw [e] at hs
        exact absurd hs (by show ¬ 4 = 1; decide)
      | true =>
        have e : kindOf (.name b) = tx b := if_pos hr
        rw [e] at hs
        rcases reserved_cases hr with z | z | z | z <;> subst z
        · exact absurd hs (by show ¬ 7 = 1; decide)
        · exact absurd hs (by show ¬ 3 = 1; decide)
        · exact absurd hs (by show ¬ 3 = 1; decide)
        · exact absurd hs (by show ¬ 5 = 1; decide)
    | num n => exact absurd (congrArg (fun s : Str => s.cps.size) h) (by show ¬ 6 = 1; decide)
    | sign m =>
      have : m = n := by
        have q : (⟨#[m]⟩ : Str) = ⟨#[n]⟩ := h
        injection q with q
        simpa using q
      rw [this]
    | last => exact absurd (congrArg (fun s : Str => s.cps.size) h) (by show ¬ 3 = 1; decide)
  · intro h
    rw [h]
    rfl
theorem kind_word {t : Tok} {x : String} (hx : x = "columns" ∨ x = "row" ∨ x = "ask" ∨ x = "times") : kindOf t = Str.ofString x ↔ t = .name (word x) := by
  constructor
  · intro h
    cases t with
    | name b =>
      cases hr : RESERVED.contains b with
      | false =>
        exfalso
        have e : kindOf (.name b) = Str.ofString "name" := if_neg (by rw [hr]; decide)
        rw [e] at h
        rcases hx with z | z | z | z <;> subst z <;> revert h <;> decide +kernel
      | true =>
        have e : kindOf (.name b) = tx b := if_pos hr
        rw [e] at h
        rcases hx with z | z | z | z <;> subst z <;> rcases reserved_cases hr with y | y | y | y <;> subst y <;> first | rfl | (exfalso; revert h; decide +kernel)
    | num n =>
      exfalso
      rcases hx with z | z | z | z <;> subst z <;> revert h <;> show ¬ Str.ofString "number" = _ <;> decide +kernel
    | sign n =>
      exfalso
      have hs := congrArg (fun s : Str => s.cps.size) h
      rcases hx with z | z | z | z <;> subst z
      · exact absurd hs (by show ¬ 1 = 7; decide)
      · exact absurd hs (by show ¬ 1 = 3; decide)
      · exact absurd hs (by show ¬ 1 = 3; decide)
      · exact absurd hs (by show ¬ 1 = 5; decide)
    | last =>
      exfalso
      rcases hx with z | z | z | z <;> subst z <;> revert h <;> show ¬ Str.ofString "end" = _ <;> decide +kernel
  · intro h
    rw [h]
    rcases hx with z | z | z | z <;> subst z <;> decide +kernel
/-! the next token, by what it is -/
theorem tokEq_iff {a b : Tok} : tokEq a b = true ↔ a = b := by
  cases a <;> cases b <;> simp [tokEq]
theorem next_iff {t x : Tok} {p : Nat} {r : Toks} : next t (⟨p, x⟩ :: r) = true ↔ x = t := tokEq_iff
theorem next_eq {t x : Tok} {p : Nat} {r : Toks} [Decidable (x = t)] : next t (⟨p, x⟩ :: r) = decide (x = t) := by
  cases h : next t (⟨p, x⟩ :: r) with
  | true => rw [decide_eq_true (next_iff.mp h)]
  | false => rw [decide_eq_false fun z => by rw [next_iff.mpr z] at h; cases h]
theorem taken_yes {t : Tok} {p : Nat} {r : Toks} : taken t (⟨p, t⟩ :: r) = .ok r := by
  unfold taken
  rw [if_pos (next_iff.mpr rfl)]
  rfl
theorem taken_no {t x : Tok} {p : Nat} {r : Toks} (h : x ≠ t) : taken t (⟨p, x⟩ :: r) = .error ⟨3, p⟩ := by
  unfold taken
  rw [if_neg (fun z => h (next_iff.mp z))]
  rfl
theorem takeName_yes {p : Nat} {b : List UInt8} {r : Toks} (h : RESERVED.contains b = false) : takeName (⟨p, .name b⟩ :: r) = .ok (⟨p, b⟩, r) := by
  unfold takeName
  simp only [h, Bool.false_eq_true, if_false]
theorem takeName_no {p : Nat} {t : Tok} {r : Toks} (h : ¬ ∃ b, t = .name b ∧ RESERVED.contains b = false) : takeName (⟨p, t⟩ :: r) = .error ⟨3, p⟩ := by
  unfold takeName
  cases t with
  | name b =>
    cases hr : RESERVED.contains b with
    | false => exact absurd ⟨b, rfl, hr⟩ h
    | true => simp only [hr, if_true]; rfl
  | num n => rfl
  | sign n => rfl
  | last => rfl
theorem takeNat_no {m p : Nat} {t : Tok} {r : Toks} (h : ¬ ∃ n, t = .num n) : takeNat m (⟨p, t⟩ :: r) = .error ⟨3, p⟩ := by
  cases t with
  | num n => exact absurd ⟨n, rfl⟩ h
  | _ => rfl
theorem takeNat_yes {m p n : Nat} {r : Toks} (h : n ≤ m) : takeNat m (⟨p, .num n⟩ :: r) = .ok (n, r) := if_neg (Nat.not_lt.mpr h)
theorem takeNat_big {m p n : Nat} {r : Toks} (h : m < n) : takeNat m (⟨p, .num n⟩ :: r) = .error ⟨7, p⟩ := if_pos h
/-! columns -/
theorem takeName_rest {l : Toks} {x : PName × Toks} (h : takeName l = .ok x) : x.2.length < l.length := by
  cases l with
  | nil => cases h
  | cons a r =>
    obtain ⟨p, t⟩ := a
    cases t with
    | name b =>
      unfold takeName at h
      simp only at h
      split at h
      · cases h
      · injection h with h
        rw [← h]
        simp
    | _ => cases h
theorem cols_fuel : ∀ (n m : Nat) (cs : List (List UInt8)) (l : Toks), l.length < n → l.length < m → takeColumns n cs l = takeColumns m cs l
  | 0, _, _, _, h, _ => absurd h (Nat.not_lt_zero _)
  | _ + 1, 0, _, _, _, h => absurd h (Nat.not_lt_zero _)
  | n + 1, m + 1, cs, l, h1, h2 => by
    unfold takeColumns
    cases hn : takeName l with
    | error e => rfl
    | ok x =>
      have hr := takeName_rest hn
      have hd : (x.2.drop 1).length ≤ x.2.length := by rw [List.length_drop]; omega
      show (if COLUMNS ≤ cs.length then _ else _) = (if COLUMNS ≤ cs.length then _ else _)
      split
      · rfl
      · split
        · rfl
        · split
          · exact cols_fuel n m _ _ (by omega) (by omega)
          · rfl
def colsF (cs : List (List UInt8)) (l : Toks) : Except Fault (List (List UInt8) × Toks) := takeColumns (l.length + 1) cs l
theorem colsF_eq (cs : List (List UInt8)) (l : Toks) : colsF cs l = (takeName l).bind fun x => if COLUMNS ≤ cs.length then .error ⟨4, x.1.place⟩ else if cs.contains x.1.name = true then .error ⟨5, x.1.place⟩ else
    if next (.sign 44) x.2 = true then colsF (cs ++ [x.1.name]) (x.2.drop 1) else (takeSign 59 x.2).map fun m => (cs ++ [x.1.name], m) := by
  show takeColumns (l.length + 1) cs l = _
  rw [takeColumns]
  cases hn : takeName l with
  | error e => rfl
  | ok x =>
    have hr := takeName_rest hn
    have hd : (x.2.drop 1).length ≤ x.2.length := by rw [List.length_drop]; omega
    show (if COLUMNS ≤ cs.length then _ else _) = (if COLUMNS ≤ cs.length then _ else _)
    split
    · rfl
    · split
      · rfl
      · split
        · exact cols_fuel _ _ _ _ (by omega) (Nat.lt_succ_self _)
        · rfl
/-! a question's columns -/
theorem asked_fuel (cs : List (List UInt8)) : ∀ (n m g : Nat) (l : Toks), l.length < n → l.length < m → takeAsked cs n g l = takeAsked cs m g l
  | 0, _, _, _, h, _ => absurd h (Nat.not_lt_zero _)
  | _ + 1, 0, _, _, _, h => absurd h (Nat.not_lt_zero _)
  | n + 1, m + 1, g, l, h1, h2 => by
    unfold takeAsked
    cases hn : takeName l with
    | error e => rfl
    | ok x =>
      have hr := takeName_rest hn
      have hd : (x.2.drop 1).length ≤ x.2.length := by rw [List.length_drop]; omega
      simp only [Except.bind]
      cases hi : cs.findIdx? fun c => c == x.1.name with
      | none => rfl
      | some i =>
        simp only
        split
        · rfl
        · split
          · exact asked_fuel cs n m _ _ (by omega) (by omega)
          · rfl
def askedF (cs : List (List UInt8)) (g : Nat) (l : Toks) : Except Fault (Nat × Toks) := takeAsked cs (l.length + 1) g l
theorem askedF_eq (cs : List (List UInt8)) (g : Nat) (l : Toks) : askedF cs g l = (takeName l).bind fun x => match cs.findIdx? fun c => c == x.1.name with
    | none => .error ⟨8, x.1.place⟩
    | some i => if g / 2 ^ i % 2 = 1 then .error ⟨6, x.1.place⟩ else if next (.sign 44) x.2 = true then askedF cs (g + 2 ^ i) (x.2.drop 1) else .ok (g + 2 ^ i, x.2) := by
  show takeAsked cs (l.length + 1) g l = _
  rw [takeAsked]
  cases hn : takeName l with
  | error e => rfl
  | ok x =>
    have hr := takeName_rest hn
    have hd : (x.2.drop 1).length ≤ x.2.length := by rw [List.length_drop]; omega
    simp only [Except.bind]
    cases hi : cs.findIdx? fun c => c == x.1.name with
    | none => rfl
    | some i =>
      simp only
      split
      · rfl
      · split
        · exact asked_fuel cs _ _ _ _ (by omega) (Nat.lt_succ_self _)
        · rfl
/-! what is left gets shorter -/
theorem taken_rest {t : Tok} {l r : Toks} (h : taken t l = .ok r) : r.length < l.length := by
  unfold taken at h
  split at h
  · rename_i hn
    injection h with h
    rw [← h]
    cases l with
    | nil => cases hn
    | cons a b => simp
  · cases h
theorem takeNat_rest {m : Nat} {l : Toks} {x : Nat × Toks} (h : takeNat m l = .ok x) : x.2.length < l.length := by
  cases l with
  | nil => cases h
  | cons a r =>
    obtain ⟨p, t⟩ := a
    cases t with
    | num n =>
      unfold takeNat at h
      simp only at h
      split at h
      · cases h
      · injection h with h
        rw [← h]
        simp
    | _ => cases h
theorem takeValues_rest : ∀ (n : Nat) (vs : List Nat) (l : Toks) (x : List Nat × Toks), takeValues n vs l = .ok x → x.2.length ≤ l.length
  | 0, vs, l, x, h => by
    injection h with h
    rw [← h]
    exact Nat.le_refl _
  | n + 1, vs, l, x, h => by
    unfold takeValues at h
    cases h1 : (if vs.isEmpty = true then (Except.ok l : Except VamvsBase.Fault Toks) else takeSign 44 l) with
    | error e => rw [h1] at h; cases h
    | ok r =>
      rw [h1] at h
      have hr : r.length ≤ l.length := by
        split at h1
        · injection h1 with h1; rw [h1]; exact Nat.le_refl _
        · exact Nat.le_of_lt (taken_rest h1)
      cases h2 : takeNat VALUE r with
      | error e => simp only [Except.bind, h2] at h; cases h
      | ok y =>
        simp only [Except.bind, h2] at h
        have := takeNat_rest h2
        have := takeValues_rest n _ _ _ h
        omega
theorem takeInt_rest {l : Toks} {x : Int × Toks} (h : takeInt l = .ok x) : x.2.length < l.length := by
  unfold takeInt at h
  simp only at h
  cases h1 : takeNat SIZE (if next (.sign 45) l = true then l.drop 1 else l) with
  | error e => rw [h1] at h; cases h
  | ok y =>
    rw [h1] at h
    injection h with h
    rw [← h]
    have := takeNat_rest h1
    have : (if next (.sign 45) l = true then l.drop 1 else l).length ≤ l.length := by
      split
      · rw [List.length_drop]; omega
      · exact Nat.le_refl _
    show y.2.length < l.length
    omega
theorem takeAsked_rest (cs : List (List UInt8)) : ∀ (n g : Nat) (l : Toks) (x : Nat × Toks), takeAsked cs n g l = .ok x → x.2.length ≤ l.length
  | 0, _, _, _, h => by cases h
  | n + 1, g, l, x, h => by
    unfold takeAsked at h
    cases h1 : takeName l with
    | error e => rw [h1] at h; cases h
    | ok y =>
      rw [h1] at h
      have hy := takeName_rest h1
      simp only [Except.bind] at h
      cases hi : cs.findIdx? fun c => c == y.1.name with
      | none => rw [hi] at h; cases h
      | some i =>
        rw [hi] at h
        simp only at h
        split at h
        · cases h
        · split at h
          · have := takeAsked_rest cs n _ _ _ h
            rw [List.length_drop] at this
            omega
          · injection h with h
            rw [← h]
            exact Nat.le_of_lt hy
theorem takeTimes_rest {l : Toks} {x : Nat × Toks} (h : takeTimes l = .ok x) : x.2.length ≤ l.length := by
  unfold takeTimes at h
  split at h
  · cases hl : l.drop 1 with
    | nil => rw [hl] at h; cases h
    | cons a r =>
      obtain ⟨p, t⟩ := a
      rw [hl] at h
      have e : (l.drop 1).length = r.length + 1 := by rw [hl]; rfl
      rw [List.length_drop] at e
      cases t with
      | num n =>
        simp only at h
        split at h
        · cases h
        · injection h with h
          rw [← h]
          show r.length ≤ l.length
          omega
      | _ => cases h
  · injection h with h
    rw [← h]
    exact Nat.le_refl _
theorem takeAsk_rest {cs : List (List UInt8)} {l : Toks} {x : Ask × Toks} (h : takeAsk cs l = .ok x) : x.2.length < l.length := by
  unfold takeAsk at h
  cases h1 : (if nextWord "times" l = true ∨ next (.sign 59) l = true then (Except.ok (0, l) : Except VamvsBase.Fault (Nat × Toks)) else takeAsked cs (l.length + 1) 0 l) with
  | error e => rw [h1] at h; cases h
  | ok g =>
    rw [h1] at h
    have hg : g.2.length ≤ l.length := by
      split at h1
      · injection h1 with h1; rw [← h1]; exact Nat.le_refl _
      · exact takeAsked_rest _ _ _ _ _ h1
    cases h2 : takeTimes g.2 with
    | error e => simp only [Except.bind, h2] at h; cases h
    | ok k =>
      have hk := takeTimes_rest h2
      simp only [Except.bind, h2] at h
      cases h3 : takeSign 59 k.2 with
      | error e => rw [h3] at h; cases h
      | ok m =>
        rw [h3] at h
        injection h with h
        rw [← h]
        have : m.length < k.2.length := taken_rest h3
        show m.length < l.length
        omega
/-! lines -/
def rowF (w : Nat) (l : Toks) : Except Fault (Row × Toks) := (takeValues w [] l).bind fun v => (takeSign 58 v.2).bind fun r => (takeInt r).bind fun x => (takeSign 59 x.2).map fun m => (⟨v.1, x.1⟩, m)
theorem rowF_rest {w : Nat} {l : Toks} {x : Row × Toks} (h : rowF w l = .ok x) : x.2.length < l.length := by
  unfold rowF at h
  cases h1 : takeValues w [] l with
  | error e => rw [h1] at h; cases h
  | ok v =>
    rw [h1] at h
    have e1 := takeValues_rest _ _ _ _ h1
    cases h2 : takeSign 58 v.2 with
    | error e => simp only [Except.bind, h2] at h; cases h
    | ok r =>
      simp only [Except.bind, h2] at h
      have e2 : r.length < v.2.length := taken_rest h2
      cases h3 : takeInt r with
      | error e => rw [h3] at h; cases h
      | ok y =>
        rw [h3] at h
        have e3 := takeInt_rest h3
        simp only at h
        cases h4 : takeSign 59 y.2 with
        | error e => rw [h4] at h; cases h
        | ok m =>
          rw [h4] at h
          injection h with h
          rw [← h]
          have : m.length < y.2.length := taken_rest h4
          show m.length < l.length
          omega
/-- one line: a row or a question -/
def lineF (t : Table) (l : Toks) : Except Fault (Table × Toks) :=
  if nextWord "row" l = true then (if ROWS ≤ t.rows.length then .error ⟨4, here l⟩ else (rowF t.cols.length (l.drop 1)).map fun x => ({ t with rows := t.rows ++ [x.1] }, x.2))
  else (takeWord "ask" l).bind fun r => if ASKS ≤ t.asks.length then .error ⟨4, here l⟩ else (takeAsk t.cols r).map fun a => ({ t with asks := t.asks ++ [a.1] }, a.2)
theorem lineF_rest {t : Table} {l : Toks} {x : Table × Toks} (h : lineF t l = .ok x) : x.2.length < l.length := by
  unfold lineF at h
  split at h
  · rename_i hn
    split at h
    · cases h
    · cases h1 : rowF t.cols.length (l.drop 1) with
      | error e => rw [h1] at h; cases h
      | ok y =>
        rw [h1] at h
        injection h with h
        rw [← h]
        have := rowF_rest h1
        rw [List.length_drop] at this
        show y.2.length < l.length
        omega
  · cases h1 : takeWord "ask" l with
    | error e => rw [h1] at h; cases h
    | ok r =>
      rw [h1] at h
      have e1 : r.length < l.length := taken_rest h1
      simp only [Except.bind] at h
      split at h
      · cases h
      · cases h2 : takeAsk t.cols r with
        | error e => rw [h2] at h; cases h
        | ok y =>
          rw [h2] at h
          injection h with h
          rw [← h]
          have := takeAsk_rest h2
          show y.2.length < l.length
          omega
theorem lines_step (n : Nat) (t : Table) (l : Toks) : takeLines (n + 1) t l = if next .last l = true then .ok t else (lineF t l).bind fun x => takeLines n x.1 x.2 := by
  rw [takeLines]
  split
  · rfl
  · unfold lineF
    split
    · split
      · rfl
      · unfold rowF
        cases takeValues t.cols.length [] (l.drop 1) with
        | error e => rfl
        | ok v =>
          show ((takeSign 58 v.2).bind _) = _
          cases h2 : takeSign 58 v.2 with
          | error e => simp only [Except.bind, h2, Except.map]
          | ok r =>
            simp only [Except.bind, h2]
            cases h3 : takeInt r with
            | error e => rfl
            | ok y =>
              simp only
              cases h4 : takeSign 59 y.2 with
              | error e => rfl
              | ok m => rfl
    · cases takeWord "ask" l with
      | error e => rfl
      | ok r =>
        simp only [Except.bind]
        split
        · rfl
        · cases takeAsk t.cols r with
          | error e => rfl
          | ok y => rfl
theorem lines_fuel : ∀ (n m : Nat) (t : Table) (l : Toks), l.length < n → l.length < m → takeLines n t l = takeLines m t l
  | 0, _, _, _, h, _ => absurd h (Nat.not_lt_zero _)
  | _ + 1, 0, _, _, _, h => absurd h (Nat.not_lt_zero _)
  | n + 1, m + 1, t, l, h1, h2 => by
    rw [lines_step, lines_step]
    split
    · rfl
    · cases hl : lineF t l with
      | error e => rfl
      | ok x =>
        have := lineF_rest hl
        exact lines_fuel n m _ _ (by omega) (by omega)
def linesF (t : Table) (l : Toks) : Except Fault Table := takeLines (l.length + 1) t l
theorem linesF_eq (t : Table) (l : Toks) : linesF t l = if next .last l = true then .ok t else (lineF t l).bind fun x => linesF x.1 x.2 := by
  show takeLines (l.length + 1) t l = _
  rw [lines_step]
  split
  · rfl
  · cases hl : lineF t l with
    | error e => rfl
    | ok x =>
      have := lineF_rest hl
      exact lines_fuel _ _ _ _ (by omega) (Nat.lt_succ_self _)
theorem read_eq (b : List UInt8) : Vamvsa.read b = if VamvsBase.TEXT < b.length then .error ⟨1, VamvsBase.TEXT⟩ else (lexF 0 b).bind fun l => (takeWord "columns" l).bind fun r => (colsF [] r).bind fun x => linesF ⟨x.1, [], []⟩ x.2 := by
  unfold Vamvsa.read VamvsBase.tokens
  split
  · rfl
  · rfl
end Bk
end
section
namespace Bk
open PySem PySem.Spec PyProof.Rows L2
/-- a method of the class at C -/
def HasMeth (K : PySem.W.Frag) (C : Addr) (m qual : Str) (st : Stmt) (ps : List Str) : Prop := ∃ f fd, Meth K C m f ∧ Fun K m qual st f fd ∧ Binds K fd ps []
def HasMk (K : PySem.W.Frag) (C : Addr) (qual : Str) (st : Stmt) (ps : List Str) : Prop := ∃ f fd, Mk K C f ∧ Fun K "__init__" qual st f fd ∧ Binds K fd ps []
/-- a constant of the top -/
def HasC (mg : Str → Option Value) (x : Str) (v : V) : Prop := ∃ u, mg x = some u ∧ RelV v u
/-- a written tuple of the top -/
def HasT (K : PySem.W.Frag) (mg : Str → Option Value) (x : Str) (vs : List V) : Prop := ∃ a, mg x = some (.ref a) ∧ ∀ H, SqT K H a vs
/-- the error class at C -/
def HasErr (K : PySem.W.Frag) (mg : Str → Option Value) (x : Str) (C : Addr) (qual : Str) (st : Stmt) (ps : List Str) : Prop := ErrC K C ∧ XfC K C ∧ mg x = some (.ref C) ∧ PySem.W.exmOne K (.ref C) (.ref C) = some true ∧
  PySem.W.findCls K (.type "Exception") (.type "type") "__init__" = some (.val (.builtin "Exception.__init__")) ∧
  ∃ f fd, PySem.W.findIn K (.ref C) "__init__" = some (some (.ref f)) ∧ PySem.W.typeIn K (.ref f) = some (.type "function") ∧ Fun K "__init__" qual st f fd ∧ Binds K fd ps []
/-- where the classes stand -/
structure Cs where
  (cGroupings cAllSets cFault cToken cTable cReader cKeeper : Addr)
structure Txt (K : PySem.W.Frag) (mg : Str → Option Value) (c : Cs) : Prop where
  n_Exception : mg "Exception" = none
  n_all : mg "all" = none
  n_enumerate : mg "enumerate" = none
  n_int : mg "int" = none
  n_len : mg "len" = none
  n_list : mg "list" = none
  n_min : mg "min" = none
  n_ord : mg "ord" = none
  n_range : mg "range" = none
  n_set : mg "set" = none
  n_sorted : mg "sorted" = none
  n_str : mg "str" = none
  n_sum : mg "sum" = none
  n_tuple : mg "tuple" = none
  n_zip : mg "zip" = none
  c_COST_OF_CHANGE : HasC mg "COST_OF_CHANGE" (.int 2)
  c_MOST_NAME_BYTES : HasC mg "MOST_NAME_BYTES" (.int 16)
  c_GREATEST_NUMBER : HasC mg "GREATEST_NUMBER" (.int 1000000000)
  c_MOST_DIGITS : HasC mg "MOST_DIGITS" (.int 10)
  c_LETTERS : HasC mg "LETTERS" (.str "ABCDEFGHIJKLMNOPQRSTUVWXYZabcdefghijklmnopqrstuvwxyz")
  c_DIGITS : HasC mg "DIGITS" (.str "0123456789")
  c_SIGNS : HasC mg "SIGNS" (.str ",:;-")
  c_BLANKS : HasC mg "BLANKS" (.str " \t\n")
  c_REMARK : HasC mg "REMARK" (.str "#")
  c_STRANGE : HasC mg "STRANGE" (.str "?")
  c_WORDS : HasT K mg "WORDS" [.str "columns", .str "row", .str "ask", .str "times"]
  c_MOST_BYTES : HasC mg "MOST_BYTES" (.int 4096)
  c_MOST_COLUMNS : HasC mg "MOST_COLUMNS" (.int 4)
  c_MOST_ROWS : HasC mg "MOST_ROWS" (.int 16)
  c_MOST_QUESTIONS : HasC mg "MOST_QUESTIONS" (.int 8)
  c_GREATEST_VALUE : HasC mg "GREATEST_VALUE" (.int 9)
  c_GREATEST_AMOUNT : HasC mg "GREATEST_AMOUNT" (.int 1000)
  c_MOST_TIMES : HasC mg "MOST_TIMES" (.int 99)
  c_LOAD : HasC mg "LOAD" (.int 0)
  c_SHOWN : HasC mg "SHOWN" (.int 1)
  c_TERMS : HasC mg "TERMS" (.int 2)
  c_BEST : HasC mg "BEST" (.int 3)
  c_STEPS : HasC mg "STEPS" (.int 4)
  c_FEW : HasC mg "FEW" (.int 5)
  c_PRICE : HasC mg "PRICE" (.int 6)
  c_WHY : HasC mg "WHY" (.int 7)
  c_NUMBERS_TOLD : HasT K mg "NUMBERS_TOLD" [.int 0, .int 0, .int 2, .int 0, .int 0, .int 1, .int 0, .int 1, .int 0]
  c_WITH_LIST : HasT K mg "WITH_LIST" [.int 0, .int 6]
  c_NO_TABLE : HasC mg "NO_TABLE" (.int (-1))
  c_NO_SUCH_GROUPING : HasC mg "NO_SUCH_GROUPING" (.int (-2))
  c_NO_SUCH_COUNT : HasC mg "NO_SUCH_COUNT" (.int (-3))
  c_NO_SUCH_ROOM : HasC mg "NO_SUCH_ROOM" (.int (-3))
  c_NO_SUCH_CHANGES : HasC mg "NO_SUCH_CHANGES" (.int (-4))
  c_MOST_ROOM : HasC mg "MOST_ROOM" (.int 1000000)
  c_MOST_CHANGES : HasC mg "MOST_CHANGES" (.int 1000)
  c_MOST_FEW : HasC mg "MOST_FEW" (.int 4)
  c_FIRST_ROOM : HasC mg "FIRST_ROOM" (.int 1000000)
  c_FIRST_CHANGES : HasC mg "FIRST_CHANGES" (.int 0)
  g_Groupings : mg "Groupings" = some (.ref c.cGroupings)
  k_Groupings : Cls K c.cGroupings
  a_Groupings_whole : NoAttr K c.cGroupings "whole"
  a_Groupings_asked : NoAttr K c.cGroupings "asked"
  a_Groupings_sizes : NoAttr K c.cGroupings "sizes"
  i_Groupings : HasMk K c.cGroupings "Groupings.__init__" (inClass (top 2) 0) ["self", "table"]
  g_AllSets : mg "AllSets" = some (.ref c.cAllSets)
  k_AllSets : Cls K c.cAllSets
  a_AllSets_readings : NoAttr K c.cAllSets "readings"
  a_AllSets_lines : NoAttr K c.cAllSets "lines"
  a_AllSets_kept_counts : NoAttr K c.cAllSets "kept_counts"
  i_AllSets : HasMk K c.cAllSets "AllSets.__init__" (inClass (top 3) 0) ["self", "groupings"]
  k_Fault : HasErr K mg "Fault" c.cFault "Fault.__init__" (inClass (top 27) 0) ["self", "code", "place"]
  a_Fault_code : NoAttr K c.cFault "code"
  a_Fault_place : NoAttr K c.cFault "place"
  g_Token : mg "Token" = some (.ref c.cToken)
  k_Token : Cls K c.cToken
  a_Token_kind : NoAttr K c.cToken "kind"
  a_Token_told : NoAttr K c.cToken "told"
  a_Token_place : NoAttr K c.cToken "place"
  a_Token_behind : NoAttr K c.cToken "behind"
  i_Token : HasMk K c.cToken "Token.__init__" (inClass (top 39) 0) ["self", "kind", "told", "place", "behind"]
  g_Table : mg "Table" = some (.ref c.cTable)
  k_Table : Cls K c.cTable
  a_Table_columns : NoAttr K c.cTable "columns"
  a_Table_rows : NoAttr K c.cTable "rows"
  a_Table_questions : NoAttr K c.cTable "questions"
  i_Table : HasMk K c.cTable "Table.__init__" (inClass (top 57) 0) ["self", "columns"]
  g_Reader : mg "Reader" = some (.ref c.cReader)
  k_Reader : Cls K c.cReader
  a_Reader_tokens : NoAttr K c.cReader "tokens"
  a_Reader_at : NoAttr K c.cReader "at"
  i_Reader : HasMk K c.cReader "Reader.__init__" (inClass (top 58) 0) ["self", "tokens"]
  m_Reader_sees : HasMeth K c.cReader "sees" "Reader.sees" (inClass (top 58) 1) ["self", "kind"]
  m_Reader_take : HasMeth K c.cReader "take" "Reader.take" (inClass (top 58) 2) ["self", "kind"]
  g_Keeper : mg "Keeper" = some (.ref c.cKeeper)
  k_Keeper : Cls K c.cKeeper
  a_Keeper_table : NoAttr K c.cKeeper "table"
  a_Keeper_groupings : NoAttr K c.cKeeper "groupings"
  a_Keeper_sets : NoAttr K c.cKeeper "sets"
  a_Keeper_room : NoAttr K c.cKeeper "room"
  a_Keeper_changes : NoAttr K c.cKeeper "changes"
  i_Keeper : HasMk K c.cKeeper "Keeper.__init__" (inClass (top 94) 0) ["self"]
  m_Keeper_answer : HasMeth K c.cKeeper "answer" "Keeper.answer" (inClass (top 94) 1) ["self", "call", "told"]
  m_Keeper_load : HasMeth K c.cKeeper "load" "Keeper.load" (inClass (top 94) 2) ["self", "text"]
  m_Keeper_shown : HasMeth K c.cKeeper "shown" "Keeper.shown" (inClass (top 94) 3) ["self"]
  m_Keeper_set_terms : HasMeth K c.cKeeper "set_terms" "Keeper.set_terms" (inClass (top 94) 4) ["self", "room", "changes"]
  m_Keeper_best : HasMeth K c.cKeeper "best" "Keeper.best" (inClass (top 94) 5) ["self"]
  m_Keeper_steps : HasMeth K c.cKeeper "steps" "Keeper.steps" (inClass (top 94) 6) ["self"]
  m_Keeper_few : HasMeth K c.cKeeper "few" "Keeper.few" (inClass (top 94) 7) ["self", "most"]
  m_Keeper_price : HasMeth K c.cKeeper "price" "Keeper.price" (inClass (top 94) 8) ["self", "told"]
  m_Keeper_why : HasMeth K c.cKeeper "why" "Keeper.why" (inClass (top 94) 9) ["self", "grouping"]
  m_Keeper_curve : HasMeth K c.cKeeper "curve" "Keeper.curve" (inClass (top 94) 10) ["self"]
  m_Keeper_every_set : HasMeth K c.cKeeper "every_set" "Keeper.every_set" (inClass (top 94) 11) ["self"]
  m_Keeper_best_kept : HasMeth K c.cKeeper "best_kept" "Keeper.best_kept" (inClass (top 94) 12) ["self"]
  m_Keeper_is_grouping : HasMeth K c.cKeeper "is_grouping" "Keeper.is_grouping" (inClass (top 94) 13) ["self", "number"]
  m_Keeper_has_room : HasMeth K c.cKeeper "has_room" "Keeper.has_room" (inClass (top 94) 14) ["self", "lines"]
  m_Keeper_cost_beyond : HasMeth K c.cKeeper "cost_beyond" "Keeper.cost_beyond" (inClass (top 94) 15) ["self", "kept", "others"]
  m_Keeper_told_set : HasMeth K c.cKeeper "told_set" "Keeper.told_set" (inClass (top 94) 16) ["self", "kept"]
  m_Keeper_told_few : HasMeth K c.cKeeper "told_few" "Keeper.told_few" (inClass (top 94) 17) ["self", "kept"]
  d_size_of : HasDef K mg "size_of" 4 ["rows", "grouping"]
  d_told_apart : HasDef K mg "told_apart" 5 ["values", "grouping"]
  d_has_all : HasDef K mg "has_all" 6 ["grouping", "question"]
  d_all_lines : HasDef K mg "all_lines" 7 ["sizes"]
  d_all_readings : HasDef K mg "all_readings" 8 ["groupings"]
  d_all_read : HasDef K mg "all_read" 9 ["groupings", "question"]
  d_best_set : HasDef K mg "best_set" 10 ["sets", "room", "changes"]
  d_best_few : HasDef K mg "best_few" 11 ["sets", "most"]
  d_least_of : HasDef K mg "least_of" 12 ["sets", "numbers", "changes"]
  d_cost_by_number : HasDef K mg "cost_by_number" 13 ["sets", "number", "changes"]
  d_members : HasDef K mg "members" 14 ["number"]
  d_rooms_that_bring : HasDef K mg "rooms_that_bring" 15 ["sets", "changes"]
  d_step_by_step : HasDef K mg "step_by_step" 16 ["groupings", "room", "changes"]
  d_few_step_by_step : HasDef K mg "few_step_by_step" 17 ["groupings", "most"]
  d_steps_at_most : HasDef K mg "steps_at_most" 18 ["groupings", "room", "changes", "most"]
  d_best_step : HasDef K mg "best_step" 19 ["groupings", "kept", "room", "changes"]
  d_lines_of : HasDef K mg "lines_of" 20 ["groupings", "kept"]
  d_cost_of : HasDef K mg "cost_of" 21 ["groupings", "kept", "changes"]
  d_reading_of : HasDef K mg "reading_of" 22 ["groupings", "kept"]
  d_what_is_read : HasDef K mg "what_is_read" 23 ["groupings", "question", "kept"]
  d_questions_that_read : HasDef K mg "questions_that_read" 24 ["groupings", "grouping", "kept"]
  d_upkeep : HasDef K mg "upkeep" 25 ["count", "changes"]
  d_tokens_of : HasDef K mg "tokens_of" 40 ["text"]
  d_as_signs : HasDef K mg "as_signs" 41 ["text"]
  d_past_blanks : HasDef K mg "past_blanks" 42 ["signs", "place"]
  d_remark_end : HasDef K mg "remark_end" 43 ["signs", "place"]
  d_token_at : HasDef K mg "token_at" 44 ["signs", "place"]
  d_number_at : HasDef K mg "number_at" 45 ["signs", "place"]
  d_is_number : HasDef K mg "is_number" 46 ["digits"]
  d_name_at : HasDef K mg "name_at" 47 ["signs", "place"]
  d_run_end : HasDef K mg "run_end" 48 ["signs", "place", "allowed"]
  d_read_table : HasDef K mg "read_table" 59 ["text"]
  d_read_columns : HasDef K mg "read_columns" 60 ["reader"]
  d_read_new_name : HasDef K mg "read_new_name" 61 ["reader", "names"]
  d_read_row : HasDef K mg "read_row" 62 ["reader", "table"]
  d_read_amount : HasDef K mg "read_amount" 63 ["reader"]
  d_read_number : HasDef K mg "read_number" 64 ["reader", "least", "greatest"]
  d_read_question : HasDef K mg "read_question" 65 ["reader", "table"]
  d_read_grouping : HasDef K mg "read_grouping" 66 ["reader", "columns"]
  d_read_column_bit : HasDef K mg "read_column_bit" 67 ["reader", "columns", "grouping"]
  d_one_form : HasDef K mg "one_form" 68 ["table"]
  d_columns_line : HasDef K mg "columns_line" 69 ["table"]
  d_row_line : HasDef K mg "row_line" 70 ["row"]
  d_question_line : HasDef K mg "question_line" 71 ["table", "question"]
  d_names_of : HasDef K mg "names_of" 72 ["columns", "grouping"]
  d_answers : HasDef K mg "answers" 95 ["calls"]
  d_told_begin : HasDef K mg "told_begin" 96 ["call", "place"]
  d_told_end : HasDef K mg "told_end" 97 ["calls", "begin", "call"]
abbrev N_size_of : List Str := ["rows", "grouping", "row"]
theorem s_size_of : FnScope N_size_of ["rows", "grouping"] (defScope (top 4)) := ⟨rfl, rfl, rfl, by decide +kernel, rfl, by decide +kernel, by decide +kernel⟩
abbrev N_told_apart : List Str := ["values", "grouping", "place", "value"]
theorem s_told_apart : FnScope N_told_apart ["values", "grouping"] (defScope (top 5)) := ⟨rfl, rfl, rfl, by decide +kernel, rfl, by decide +kernel, by decide +kernel⟩
abbrev N_has_all : List Str := ["grouping", "question"]
theorem s_has_all : FnScope N_has_all ["grouping", "question"] (defScope (top 6)) := ⟨rfl, rfl, rfl, by decide +kernel, rfl, by decide +kernel, by decide +kernel⟩
abbrev N_all_lines : List Str := ["sizes", "lines", "size", "fewer"]
theorem s_all_lines : FnScope N_all_lines ["sizes"] (defScope (top 7)) := ⟨rfl, rfl, rfl, by decide +kernel, rfl, by decide +kernel, by decide +kernel⟩
abbrev N_all_readings : List Str := ["groupings", "costs", "question", "times", "read", "cost", "lines"]
theorem s_all_readings : FnScope N_all_readings ["groupings"] (defScope (top 8)) := ⟨rfl, rfl, rfl, by decide +kernel, rfl, by decide +kernel, by decide +kernel⟩
abbrev N_all_read : List Str := ["groupings", "question", "read", "grouping", "size", "lines"]
theorem s_all_read : FnScope N_all_read ["groupings", "question"] (defScope (top 9)) := ⟨rfl, rfl, rfl, by decide +kernel, rfl, by decide +kernel, by decide +kernel⟩
abbrev N_best_set : List Str := ["sets", "room", "changes", "number", "lines"]
theorem s_best_set : FnScope N_best_set ["sets", "room", "changes"] (defScope (top 10)) := ⟨rfl, rfl, rfl, by decide +kernel, rfl, by decide +kernel, by decide +kernel⟩
abbrev N_best_few : List Str := ["sets", "most", "number", "count"]
theorem s_best_few : FnScope N_best_few ["sets", "most"] (defScope (top 11)) := ⟨rfl, rfl, rfl, by decide +kernel, rfl, by decide +kernel, by decide +kernel⟩
abbrev N_least_of : List Str := ["sets", "numbers", "changes", "best", "least", "number", "cost", "lines"]
theorem s_least_of : FnScope N_least_of ["sets", "numbers", "changes"] (defScope (top 12)) := ⟨rfl, rfl, rfl, by decide +kernel, rfl, by decide +kernel, by decide +kernel⟩
abbrev N_cost_by_number : List Str := ["sets", "number", "changes"]
theorem s_cost_by_number : FnScope N_cost_by_number ["sets", "number", "changes"] (defScope (top 13)) := ⟨rfl, rfl, rfl, by decide +kernel, rfl, by decide +kernel, by decide +kernel⟩
abbrev N_members : List Str := ["number", "grouping"]
theorem s_members : FnScope N_members ["number"] (defScope (top 14)) := ⟨rfl, rfl, rfl, by decide +kernel, rfl, by decide +kernel, by decide +kernel⟩
abbrev N_rooms_that_bring : List Str := ["sets", "changes", "least", "number", "lines", "cost", "rooms", "room"]
theorem s_rooms_that_bring : FnScope N_rooms_that_bring ["sets", "changes"] (defScope (top 15)) := ⟨rfl, rfl, rfl, by decide +kernel, rfl, by decide +kernel, by decide +kernel⟩
abbrev N_step_by_step : List Str := ["groupings", "room", "changes"]
theorem s_step_by_step : FnScope N_step_by_step ["groupings", "room", "changes"] (defScope (top 16)) := ⟨rfl, rfl, rfl, by decide +kernel, rfl, by decide +kernel, by decide +kernel⟩
abbrev N_few_step_by_step : List Str := ["groupings", "most"]
theorem s_few_step_by_step : FnScope N_few_step_by_step ["groupings", "most"] (defScope (top 17)) := ⟨rfl, rfl, rfl, by decide +kernel, rfl, by decide +kernel, by decide +kernel⟩
abbrev N_steps_at_most : List Str := ["groupings", "room", "changes", "most", "kept", "step"]
theorem s_steps_at_most : FnScope N_steps_at_most ["groupings", "room", "changes", "most"] (defScope (top 18)) := ⟨rfl, rfl, rfl, by decide +kernel, rfl, by decide +kernel, by decide +kernel⟩
abbrev N_best_step : List Str := ["groupings", "kept", "room", "changes", "free", "least", "step", "grouping", "size", "cost"]
theorem s_best_step : FnScope N_best_step ["groupings", "kept", "room", "changes"] (defScope (top 19)) := ⟨rfl, rfl, rfl, by decide +kernel, rfl, by decide +kernel, by decide +kernel⟩
abbrev N_lines_of : List Str := ["groupings", "kept", "grouping"]
theorem s_lines_of : FnScope N_lines_of ["groupings", "kept"] (defScope (top 20)) := ⟨rfl, rfl, rfl, by decide +kernel, rfl, by decide +kernel, by decide +kernel⟩
abbrev N_cost_of : List Str := ["groupings", "kept", "changes"]
theorem s_cost_of : FnScope N_cost_of ["groupings", "kept", "changes"] (defScope (top 21)) := ⟨rfl, rfl, rfl, by decide +kernel, rfl, by decide +kernel, by decide +kernel⟩
abbrev N_reading_of : List Str := ["groupings", "kept", "question", "times"]
theorem s_reading_of : FnScope N_reading_of ["groupings", "kept"] (defScope (top 22)) := ⟨rfl, rfl, rfl, by decide +kernel, rfl, by decide +kernel, by decide +kernel⟩
abbrev N_what_is_read : List Str := ["groupings", "question", "kept", "useful", "grouping"]
theorem s_what_is_read : FnScope N_what_is_read ["groupings", "question", "kept"] (defScope (top 23)) := ⟨rfl, rfl, rfl, by decide +kernel, rfl, by decide +kernel, by decide +kernel⟩
abbrev N_questions_that_read : List Str := ["groupings", "grouping", "kept", "number", "asked"]
theorem s_questions_that_read : FnScope N_questions_that_read ["groupings", "grouping", "kept"] (defScope (top 24)) := ⟨rfl, rfl, rfl, by decide +kernel, rfl, by decide +kernel, by decide +kernel⟩
abbrev N_upkeep : List Str := ["count", "changes"]
theorem s_upkeep : FnScope N_upkeep ["count", "changes"] (defScope (top 25)) := ⟨rfl, rfl, rfl, by decide +kernel, rfl, by decide +kernel, by decide +kernel⟩
abbrev N_tokens_of : List Str := ["text", "signs", "tokens", "place", "token"]
theorem s_tokens_of : FnScope N_tokens_of ["text"] (defScope (top 40)) := ⟨rfl, rfl, rfl, by decide +kernel, rfl, by decide +kernel, by decide +kernel⟩
abbrev N_as_signs : List Str := ["text", "known", "sign", "byte"]
theorem s_as_signs : FnScope N_as_signs ["text"] (defScope (top 41)) := ⟨rfl, rfl, rfl, by decide +kernel, rfl, by decide +kernel, by decide +kernel⟩
abbrev N_past_blanks : List Str := ["signs", "place"]
theorem s_past_blanks : FnScope N_past_blanks ["signs", "place"] (defScope (top 42)) := ⟨rfl, rfl, rfl, by decide +kernel, rfl, by decide +kernel, by decide +kernel⟩
abbrev N_remark_end : List Str := ["signs", "place", "line_end"]
theorem s_remark_end : FnScope N_remark_end ["signs", "place"] (defScope (top 43)) := ⟨rfl, rfl, rfl, by decide +kernel, rfl, by decide +kernel, by decide +kernel⟩
abbrev N_token_at : List Str := ["signs", "place", "first"]
theorem s_token_at : FnScope N_token_at ["signs", "place"] (defScope (top 44)) := ⟨rfl, rfl, rfl, by decide +kernel, rfl, by decide +kernel, by decide +kernel⟩
abbrev N_number_at : List Str := ["signs", "place", "behind", "digits"]
theorem s_number_at : FnScope N_number_at ["signs", "place"] (defScope (top 45)) := ⟨rfl, rfl, rfl, by decide +kernel, rfl, by decide +kernel, by decide +kernel⟩
abbrev N_is_number : List Str := ["digits"]
theorem s_is_number : FnScope N_is_number ["digits"] (defScope (top 46)) := ⟨rfl, rfl, rfl, by decide +kernel, rfl, by decide +kernel, by decide +kernel⟩
abbrev N_name_at : List Str := ["signs", "place", "behind", "name", "kind"]
theorem s_name_at : FnScope N_name_at ["signs", "place"] (defScope (top 47)) := ⟨rfl, rfl, rfl, by decide +kernel, rfl, by decide +kernel, by decide +kernel⟩
abbrev N_run_end : List Str := ["signs", "place", "allowed"]
theorem s_run_end : FnScope N_run_end ["signs", "place", "allowed"] (defScope (top 48)) := ⟨rfl, rfl, rfl, by decide +kernel, rfl, by decide +kernel, by decide +kernel⟩
abbrev N_read_table : List Str := ["text", "reader", "table"]
theorem s_read_table : FnScope N_read_table ["text"] (defScope (top 59)) := ⟨rfl, rfl, rfl, by decide +kernel, rfl, by decide +kernel, by decide +kernel⟩
abbrev N_read_columns : List Str := ["reader", "names"]
theorem s_read_columns : FnScope N_read_columns ["reader"] (defScope (top 60)) := ⟨rfl, rfl, rfl, by decide +kernel, rfl, by decide +kernel, by decide +kernel⟩
abbrev N_read_new_name : List Str := ["reader", "names", "token"]
theorem s_read_new_name : FnScope N_read_new_name ["reader", "names"] (defScope (top 61)) := ⟨rfl, rfl, rfl, by decide +kernel, rfl, by decide +kernel, by decide +kernel⟩
abbrev N_read_row : List Str := ["reader", "table", "token", "values", "amount"]
theorem s_read_row : FnScope N_read_row ["reader", "table"] (defScope (top 62)) := ⟨rfl, rfl, rfl, by decide +kernel, rfl, by decide +kernel, by decide +kernel⟩
abbrev N_read_amount : List Str := ["reader"]
theorem s_read_amount : FnScope N_read_amount ["reader"] (defScope (top 63)) := ⟨rfl, rfl, rfl, by decide +kernel, rfl, by decide +kernel, by decide +kernel⟩
abbrev N_read_number : List Str := ["reader", "least", "greatest", "token"]
theorem s_read_number : FnScope N_read_number ["reader", "least", "greatest"] (defScope (top 64)) := ⟨rfl, rfl, rfl, by decide +kernel, rfl, by decide +kernel, by decide +kernel⟩
abbrev N_read_question : List Str := ["reader", "table", "token", "grouping", "times"]
theorem s_read_question : FnScope N_read_question ["reader", "table"] (defScope (top 65)) := ⟨rfl, rfl, rfl, by decide +kernel, rfl, by decide +kernel, by decide +kernel⟩
abbrev N_read_grouping : List Str := ["reader", "columns", "grouping"]
theorem s_read_grouping : FnScope N_read_grouping ["reader", "columns"] (defScope (top 66)) := ⟨rfl, rfl, rfl, by decide +kernel, rfl, by decide +kernel, by decide +kernel⟩
abbrev N_read_column_bit : List Str := ["reader", "columns", "grouping", "token", "bit"]
theorem s_read_column_bit : FnScope N_read_column_bit ["reader", "columns", "grouping"] (defScope (top 67)) := ⟨rfl, rfl, rfl, by decide +kernel, rfl, by decide +kernel, by decide +kernel⟩
abbrev N_one_form : List Str := ["table", "lines", "row", "question", "sign"]
theorem s_one_form : FnScope N_one_form ["table"] (defScope (top 68)) := ⟨rfl, rfl, rfl, by decide +kernel, rfl, by decide +kernel, by decide +kernel⟩
abbrev N_columns_line : List Str := ["table", "names"]
theorem s_columns_line : FnScope N_columns_line ["table"] (defScope (top 69)) := ⟨rfl, rfl, rfl, by decide +kernel, rfl, by decide +kernel, by decide +kernel⟩
abbrev N_row_line : List Str := ["row", "values", "amount", "value"]
theorem s_row_line : FnScope N_row_line ["row"] (defScope (top 70)) := ⟨rfl, rfl, rfl, by decide +kernel, rfl, by decide +kernel, by decide +kernel⟩
abbrev N_question_line : List Str := ["table", "question", "grouping", "times", "parts"]
theorem s_question_line : FnScope N_question_line ["table", "question"] (defScope (top 71)) := ⟨rfl, rfl, rfl, by decide +kernel, rfl, by decide +kernel, by decide +kernel⟩
abbrev N_names_of : List Str := ["columns", "grouping", "place", "name"]
theorem s_names_of : FnScope N_names_of ["columns", "grouping"] (defScope (top 72)) := ⟨rfl, rfl, rfl, by decide +kernel, rfl, by decide +kernel, by decide +kernel⟩
abbrev N_answers : List Str := ["calls", "keeper", "answered", "place", "call", "begin", "end", "answer"]
theorem s_answers : FnScope N_answers ["calls"] (defScope (top 95)) := ⟨rfl, rfl, rfl, by decide +kernel, rfl, by decide +kernel, by decide +kernel⟩
abbrev N_told_begin : List Str := ["call", "place"]
theorem s_told_begin : FnScope N_told_begin ["call", "place"] (defScope (top 96)) := ⟨rfl, rfl, rfl, by decide +kernel, rfl, by decide +kernel, by decide +kernel⟩
abbrev N_told_end : List Str := ["calls", "begin", "call"]
theorem s_told_end : FnScope N_told_end ["calls", "begin", "call"] (defScope (top 97)) := ⟨rfl, rfl, rfl, by decide +kernel, rfl, by decide +kernel, by decide +kernel⟩
abbrev N_Groupings_init : List Str := ["self", "table", "grouping"]
theorem s_Groupings_init : FnScope N_Groupings_init ["self", "table"] (defScope (inClass (top 2) 0)) := ⟨rfl, rfl, rfl, by decide +kernel, rfl, by decide +kernel, by decide +kernel⟩
abbrev N_AllSets_init : List Str := ["self", "groupings"]
theorem s_AllSets_init : FnScope N_AllSets_init ["self", "groupings"] (defScope (inClass (top 3) 0)) := ⟨rfl, rfl, rfl, by decide +kernel, rfl, by decide +kernel, by decide +kernel⟩
abbrev N_Fault_init : List Str := ["self", "code", "place"]
theorem s_Fault_init : FnScope N_Fault_init ["self", "code", "place"] (defScope (inClass (top 27) 0)) := ⟨rfl, rfl, rfl, by decide +kernel, rfl, by decide +kernel, by decide +kernel⟩
abbrev N_Token_init : List Str := ["self", "kind", "told", "place", "behind"]
theorem s_Token_init : FnScope N_Token_init ["self", "kind", "told", "place", "behind"] (defScope (inClass (top 39) 0)) := ⟨rfl, rfl, rfl, by decide +kernel, rfl, by decide +kernel, by decide +kernel⟩
abbrev N_Table_init : List Str := ["self", "columns"]
theorem s_Table_init : FnScope N_Table_init ["self", "columns"] (defScope (inClass (top 57) 0)) := ⟨rfl, rfl, rfl, by decide +kernel, rfl, by decide +kernel, by decide +kernel⟩
abbrev N_Reader_init : List Str := ["self", "tokens"]
theorem s_Reader_init : FnScope N_Reader_init ["self", "tokens"] (defScope (inClass (top 58) 0)) := ⟨rfl, rfl, rfl, by decide +kernel, rfl, by decide +kernel, by decide +kernel⟩
abbrev N_Reader_sees : List Str := ["self", "kind"]
theorem s_Reader_sees : FnScope N_Reader_sees ["self", "kind"] (defScope (inClass (top 58) 1)) := ⟨rfl, rfl, rfl, by decide +kernel, rfl, by decide +kernel, by decide +kernel⟩
abbrev N_Reader_take : List Str := ["self", "kind", "token"]
theorem s_Reader_take : FnScope N_Reader_take ["self", "kind"] (defScope (inClass (top 58) 2)) := ⟨rfl, rfl, rfl, by decide +kernel, rfl, by decide +kernel, by decide +kernel⟩
abbrev N_Keeper_init : List Str := ["self"]
theorem s_Keeper_init : FnScope N_Keeper_init ["self"] (defScope (inClass (top 94) 0)) := ⟨rfl, rfl, rfl, by decide +kernel, rfl, by decide +kernel, by decide +kernel⟩
abbrev N_Keeper_answer : List Str := ["self", "call", "told"]
theorem s_Keeper_answer : FnScope N_Keeper_answer ["self", "call", "told"] (defScope (inClass (top 94) 1)) := ⟨rfl, rfl, rfl, by decide +kernel, rfl, by decide +kernel, by decide +kernel⟩
abbrev N_Keeper_load : List Str := ["self", "text", "table", "e"]
theorem s_Keeper_load : FnScope N_Keeper_load ["self", "text"] (defScope (inClass (top 94) 2)) := ⟨rfl, rfl, rfl, by decide +kernel, rfl, by decide +kernel, by decide +kernel⟩
abbrev N_Keeper_shown : List Str := ["self", "form"]
theorem s_Keeper_shown : FnScope N_Keeper_shown ["self"] (defScope (inClass (top 94) 3)) := ⟨rfl, rfl, rfl, by decide +kernel, rfl, by decide +kernel, by decide +kernel⟩
abbrev N_Keeper_set_terms : List Str := ["self", "room", "changes"]
theorem s_Keeper_set_terms : FnScope N_Keeper_set_terms ["self", "room", "changes"] (defScope (inClass (top 94) 4)) := ⟨rfl, rfl, rfl, by decide +kernel, rfl, by decide +kernel, by decide +kernel⟩
abbrev N_Keeper_best : List Str := ["self"]
theorem s_Keeper_best : FnScope N_Keeper_best ["self"] (defScope (inClass (top 94) 5)) := ⟨rfl, rfl, rfl, by decide +kernel, rfl, by decide +kernel, by decide +kernel⟩
abbrev N_Keeper_steps : List Str := ["self"]
theorem s_Keeper_steps : FnScope N_Keeper_steps ["self"] (defScope (inClass (top 94) 6)) := ⟨rfl, rfl, rfl, by decide +kernel, rfl, by decide +kernel, by decide +kernel⟩
abbrev N_Keeper_few : List Str := ["self", "most", "best"]
theorem s_Keeper_few : FnScope N_Keeper_few ["self", "most"] (defScope (inClass (top 94) 7)) := ⟨rfl, rfl, rfl, by decide +kernel, rfl, by decide +kernel, by decide +kernel⟩
abbrev N_Keeper_price : List Str := ["self", "told", "kept", "lines", "reading", "kept_up", "number"]
theorem s_Keeper_price : FnScope N_Keeper_price ["self", "told"] (defScope (inClass (top 94) 8)) := ⟨rfl, rfl, rfl, by decide +kernel, rfl, by decide +kernel, by decide +kernel⟩
abbrev N_Keeper_why : List Str := ["self", "grouping", "best", "without", "read", "more", "other"]
theorem s_Keeper_why : FnScope N_Keeper_why ["self", "grouping"] (defScope (inClass (top 94) 9)) := ⟨rfl, rfl, rfl, by decide +kernel, rfl, by decide +kernel, by decide +kernel⟩
abbrev N_Keeper_curve : List Str := ["self", "rooms", "told", "room", "cost"]
theorem s_Keeper_curve : FnScope N_Keeper_curve ["self"] (defScope (inClass (top 94) 10)) := ⟨rfl, rfl, rfl, by decide +kernel, rfl, by decide +kernel, by decide +kernel⟩
abbrev N_Keeper_every_set : List Str := ["self"]
theorem s_Keeper_every_set : FnScope N_Keeper_every_set ["self"] (defScope (inClass (top 94) 11)) := ⟨rfl, rfl, rfl, by decide +kernel, rfl, by decide +kernel, by decide +kernel⟩
abbrev N_Keeper_best_kept : List Str := ["self"]
theorem s_Keeper_best_kept : FnScope N_Keeper_best_kept ["self"] (defScope (inClass (top 94) 12)) := ⟨rfl, rfl, rfl, by decide +kernel, rfl, by decide +kernel, by decide +kernel⟩
abbrev N_Keeper_is_grouping : List Str := ["self", "number"]
theorem s_Keeper_is_grouping : FnScope N_Keeper_is_grouping ["self", "number"] (defScope (inClass (top 94) 13)) := ⟨rfl, rfl, rfl, by decide +kernel, rfl, by decide +kernel, by decide +kernel⟩
abbrev N_Keeper_has_room : List Str := ["self", "lines"]
theorem s_Keeper_has_room : FnScope N_Keeper_has_room ["self", "lines"] (defScope (inClass (top 94) 14)) := ⟨rfl, rfl, rfl, by decide +kernel, rfl, by decide +kernel, by decide +kernel⟩
abbrev N_Keeper_cost_beyond : List Str := ["self", "kept", "others"]
theorem s_Keeper_cost_beyond : FnScope N_Keeper_cost_beyond ["self", "kept", "others"] (defScope (inClass (top 94) 15)) := ⟨rfl, rfl, rfl, by decide +kernel, rfl, by decide +kernel, by decide +kernel⟩
abbrev N_Keeper_told_set : List Str := ["self", "kept", "cost"]
theorem s_Keeper_told_set : FnScope N_Keeper_told_set ["self", "kept"] (defScope (inClass (top 94) 16)) := ⟨rfl, rfl, rfl, by decide +kernel, rfl, by decide +kernel, by decide +kernel⟩
abbrev N_Keeper_told_few : List Str := ["self", "kept"]
theorem s_Keeper_told_few : FnScope N_Keeper_told_few ["self", "kept"] (defScope (inClass (top 94) 17)) := ⟨rfl, rfl, rfl, by decide +kernel, rfl, by decide +kernel, by decide +kernel⟩
end Bk
end
section
namespace Bk
open PySem PySem.Spec PyProof.Rows L2
def MethOk (P : Program) (w : World) (K : PySem.W.Frag) (mg : Str → Option Value) (base : Heap) (CX : CXT) (k : Nat) (C : Addr) (m : Str) (ps : List Str) (sp : Sp) : Prop :=
  ∃ f fd, Meth K C m f ∧ Binds K fd ps [] ∧ FnOk P w K mg base CX k f fd ps sp
def InitOk (P : Program) (w : World) (K : PySem.W.Frag) (mg : Str → Option Value) (base : Heap) (CX : CXT) (k : Nat) (C : Addr) (ps : List Str) (sp : Sp) : Prop :=
  ∃ f fd, Mk K C f ∧ Binds K fd ps [] ∧ FnOk P w K mg base CX k f fd ps sp
def ErrOk (P : Program) (w : World) (K : PySem.W.Frag) (mg : Str → Option Value) (base : Heap) (CX : CXT) (k : Nat) (C : Addr) (ps : List Str) (sp : Sp) : Prop :=
  ∃ f fd, PySem.W.findIn K (.ref C) "__init__" = some (some (.ref f)) ∧ PySem.W.typeIn K (.ref f) = some (.type "function") ∧ Binds K fd ps [] ∧ FnOk P w K mg base CX k f fd ps sp
section
variable {P : Program} {w : World} {K : PySem.W.Frag} {mg : Str → Option Value} {base : Heap} {C : Addr} {m qual : Str} {st : Stmt} {N ps : List Str} {k : Nat} {sp : Sp}
theorem MethOk.make (D : HasMeth K C m qual st ps) (S : FnScope N ps (defScope st)) (len : ∀ vs H Q E, sp vs H Q E → vs.length = ps.length)
    (hbody : ∀ (f : Addr) (cdv : Value) (A : Around) (outer : List Env) (s : Shared) (H : Hp) (vs : List V) (Q : VK) (E : XK), Room k (A.deeper (envOfC qual (defScope st) s.heap.objs.size f cdv)) → sp vs H Q E →
      ∃ t, PSs (cxOf CX0 P w K mg base N qual (defScope st) f cdv A outer s H E).nox (defBody st) t ∧ t { nx := fun _ H' => Q .non H', rt := Q } (start N vs) H) : MethOk P w K mg base CX0 (k + 1) C m ps sp := by
  obtain ⟨f, fd, g, F, b⟩ := D
  exact ⟨f, fd, g, b, F.ok S len (hbody f)⟩
theorem MethOk.makeX (D : HasMeth K C m qual st ps) (S : FnScope N ps (defScope st)) (len : ∀ vs H Q E, sp vs H Q E → vs.length = ps.length)
    (hbody : ∀ (f : Addr) (cdv : Value) (A : Around) (outer : List Env) (s : Shared) (H : Hp) (vs : List V) (Q : VK) (E : XK), Room k (A.deeper (envOfC qual (defScope st) s.heap.objs.size f cdv)) → sp vs H Q E →
      ∃ t, PSs (cxOf (L2.CX P w) P w K mg base N qual (defScope st) f cdv A outer s H E) (defBody st) t ∧ t { nx := fun _ H' => Q .non H', rt := Q } (start N vs) H) : MethOk P w K mg base (L2.CX P w) (k + 1) C m ps sp := by
  obtain ⟨f, fd, g, F, b⟩ := D
  exact ⟨f, fd, g, b, F.okX S len (hbody f)⟩
theorem InitOk.make (D : HasMk K C qual st ps) (S : FnScope N ps (defScope st)) (len : ∀ vs H Q E, sp vs H Q E → vs.length = ps.length)
    (hbody : ∀ (f : Addr) (cdv : Value) (A : Around) (outer : List Env) (s : Shared) (H : Hp) (vs : List V) (Q : VK) (E : XK), Room k (A.deeper (envOfC qual (defScope st) s.heap.objs.size f cdv)) → sp vs H Q E →
      ∃ t, PSs (cxOf CX0 P w K mg base N qual (defScope st) f cdv A outer s H E).nox (defBody st) t ∧ t { nx := fun _ H' => Q .non H', rt := Q } (start N vs) H) : InitOk P w K mg base CX0 (k + 1) C ps sp := by
  obtain ⟨f, fd, g, F, b⟩ := D
  exact ⟨f, fd, g, b, F.ok S len (hbody f)⟩
theorem ErrOk.make {x : Str} (D : HasErr K mg x C qual st ps) (S : FnScope N ps (defScope st)) (len : ∀ vs H Q E, sp vs H Q E → vs.length = ps.length)
    (hbody : ∀ (f : Addr) (cdv : Value) (A : Around) (outer : List Env) (s : Shared) (H : Hp) (vs : List V) (Q : VK) (E : XK), Room k (A.deeper (envOfC qual (defScope st) s.heap.objs.size f cdv)) → sp vs H Q E →
      ∃ t, PSs (cxOf CX0 P w K mg base N qual (defScope st) f cdv A outer s H E).nox (defBody st) t ∧ t { nx := fun _ H' => Q .non H', rt := Q } (start N vs) H) : ErrOk P w K mg base CX0 (k + 1) C ps sp := by
  obtain ⟨_, _, _, _, _, f, fd, h1, h2, F, b⟩ := D
  exact ⟨f, fd, h1, h2, b, F.ok S len (hbody f)⟩
end
end Bk
end
section
/-! a method called while a list of ours is left alone -/
namespace Bk
open PySem PySem.Spec PyProof.Rows L2
theorem DefOk.makeF {P : Program} {w : World} {K : PySem.W.Frag} {mg : Str → Option Value} {base : Heap} {x : Str} {i : Nat} {N ps : List Str} {k : Nat} {sp : Sp} {f : Addr} {fd : FuncData} (F : Fun K x x (top i) f fd) (S : FnScope N ps (defScope (top i))) (len : ∀ vs H Q E, sp vs H Q E → vs.length = ps.length)
    (hbody : ∀ (f : Addr) (cdv : Value) (A : Around) (outer : List Env) (s : Shared) (H : Hp) (vs : List V) (Q : VK) (E : XK), Room k (A.deeper (envOfC x (defScope (top i)) s.heap.objs.size f cdv)) → sp vs H Q E →
      ∃ t, PSs (cxOf CX0 P w K mg base N x (defScope (top i)) f cdv A outer s H E).nox (defBody (top i)) t ∧ t { nx := fun _ H' => Q .non H', rt := Q } (start N vs) H) : FnOk P w K mg base CX0 (k + 1) f fd ps sp := F.ok S len (hbody f)
def tMethF (sp : Sp) (E : XK) (C : Addr) (m : Str) (ta : TE) (t : TA) : TE := fun σ H Q => ta σ H fun x H1 => ∃ a dx fs, x = .ref a ∧ H1 a = some (.ins C dx fs) ∧ fs.lookup m = none ∧
  t σ H1 fun vs H2 => ∃ (L : Addr) (us : List V), H2 L = some (.lst us) ∧ sp (x :: (vs ++ [])) (del H2 L) (fun v H3 => H3 L = none → Q v (upd H3 L (.lst us))) E
theorem rd_methF {sp : Sp} {E : XK} {C : Addr} {m : Str} {ta : TE} {t : TA} {σ : L2.St} {H : Hp} {Q : VK} (q : ta σ H fun x H1 => ∃ a dx fs, x = .ref a ∧ H1 a = some (.ins C dx fs) ∧ fs.lookup m = none ∧
  t σ H1 fun vs H2 => ∃ (L : Addr) (us : List V), H2 L = some (.lst us) ∧ sp (x :: (vs ++ [])) (del H2 L) (fun v H3 => H3 L = none → Q v (upd H3 L (.lst us))) E) : tMethF sp E C m ta t σ H Q := q
section
variable {X : Cx} {k : Nat} {f C : Addr} {fd : FuncData} {ps : List Str} {sp : Sp} {E : XK} {m : Str} {apos pos : Pos} {o e : Expr} {es : List Expr} {ta : TE} {t : TA}
theorem run_fnF {pins : List (Addr × Obj)} {σ : L2.St} {H : Hp} {s : Shared} {Q : VK} {us : List Value} {vs ws : List V} {L : Addr} (F : FnOk X.prog X.w X.K X.mg X.base CX0 k f fd ps sp) (hr : Room k X.A) (hb : Binds X.K fd ps [])
    (I : Inv X pins σ H s) (r : Vals vs us) (hL : H L = some (.lst ws)) (h : sp (vs ++ []) (del H L) (fun v H3 => H3 L = none → Q v (upd H3 L (.lst ws))) E) : wpAny (model X.prog X.w) X.A (call (.ref f) us) (EP X pins σ Q) X.xe s := by
  have r2 : Vals (vs ++ []) (us ++ []) := r.append .nil
  have hl : (us ++ []).length = ps.length := by rw [← r2.length]; exact F.len _ _ _ _ h
  have e0 := I.env0
  have notL : L ∉ frs X.stack := fun z => by rw [e0.frf L z] at hL; cases hL
  have up : ∀ b u, del H L b = some u → b ≠ L ∧ H b = some u := fun b u q => by
    by_cases hbL : b = L
    · rw [hbL, del_same] at q; cases q
    · rw [del_ne hbL] at q; exact ⟨hbL, q⟩
  have down : ∀ b, H b = none → del H L b = none := fun b q => by
    by_cases hbL : b = L
    · rw [hbL]; exact del_same
    · rw [del_ne hbL]; exact q
  have e1 : Env0 X.prog X.w X.K X.mg X.base X.A X.stack s (del H L) := by
    refine ⟨e0.frames, e0.mod, fun b ob q => ⟨(e0.bs b ob q).1, down b (e0.bs b ob q).2⟩, e0.bsz, e0.funs, fun b q => down b (e0.frf b q), fun b ob q => ?_, e0.bare⟩
    obtain ⟨hbL, q⟩ := up b ob q
    refine (e0.hok b ob q).stay (fun _ _ _ z => z) (fun d z => ?_) fun d xs z => ?_
    · rw [del_ne (fun y => by rw [y, hL] at z; cases z)]; exact z
    · rw [del_ne (fun y => by rw [y, hL] at z; cases z)]; exact z
  refine wpAny_call (codeAny_mono (F.run X.A X.stack s (del H L) ⟨us, []⟩ (us ++ []) (vs ++ []) _ E hr e1 (hb s us I.kIn hl) r2 h) fun rr s' hq => ?_)
  rcases rr with er | fl
  · exact False.elim hq
  · cases fl with
    | ret u =>
      obtain ⟨v, H', os, bare, un, hok, rv, q⟩ := hq
      obtain ⟨z, its, n, rvs, hob⟩ := I.hok L _ hL
      have hL' : H' L = none := un.free L _ hob del_same (by simp)
      have hob' := un.keep L _ hob del_same notL (by simp)
      refine I.after ⟨v, upd H' L (.lst ws), os, bare, ⟨fun b ob q n1 n2 n3 => un.keep b ob q (down b n1) n2 n3, fun b ob q n1 n2 n3 => un.slot b ob q (down b n1) n2 n3, fun b ob q n1 n2 => ?_, un.there, fun b xs q => ?_, fun b ob u q => ?_, fun b ps' q => ?_⟩, fun b ob q => ?_, rv, q hL'⟩
      · rw [upd_ne (fun y => by rw [y, hL] at n1; cases n1)]
        exact un.free b ob q (down b n1) n2
      · have hbL : b ≠ L := fun y => by rw [y, hL] at q; cases q
        rw [upd_ne hbL]
        exact un.tups b xs (by rw [del_ne hbL]; exact q)
      · have hbL : b ≠ L := fun y => by rw [y, hL] at q; cases q
        rw [upd_ne hbL]
        exact un.frzs b ob u (by rw [del_ne hbL]; exact q)
      · have hbL : b ≠ L := fun y => by rw [y, hL] at q; cases q
        rw [upd_ne hbL]
        exact un.tbls b ps' (by rw [del_ne hbL]; exact q)
      · by_cases hbL : b = L
        · subst hbL
          rw [upd_same] at q
          cases q
          exact ⟨z, its, n, rvs, hob'⟩
        · rw [upd_ne hbL] at q
          refine (hok b ob q).stay (fun _ _ _ z => z) (fun d y => ?_) fun d xs y => ?_
          · rw [upd_ne (fun w => by rw [w, hL'] at y; cases y)]; exact y
          · rw [upd_ne (fun w => by rw [w, hL'] at y; cases y)]; exact y
    | next => exact False.elim hq
    | brk => exact False.elim hq
    | cont => exact False.elim hq
theorem pe_methF {pl : Sem Bool} (he : PE X o ta) (c : Cls X.K C) (hm : Meth X.K C m f) (F : FnOk X.prog X.w X.K X.mg X.base CX0 k f fd ps sp) (hr : Room k X.A) (hb : Binds X.K fd ps []) (ha : PA X (e :: es) t)
    (hst : starEach (e :: es) X.env = (false, eval e X.env) :: starEach es X.env := by rfl) (hpl : (backTo pos (starEach es X.env)).any (·.1) = false := by rfl)
    (ht : eval (.Call (.Attribute o m apos) (e :: es) [] pos) X.env = (do
      let ov ← eval o X.env
      standAt apos.atName
      let (f, first) ← holding [ov] (getMethod ov m pl)
      callWith pos f first (backTo pos (starEach (e :: es) X.env)) (backToKw pos (keywordEach [] X.env))) := by rfl) :
    PE X (.Call (.Attribute o m apos) (e :: es) [] pos) (tMethF sp E C m ta t) := by
  refine ⟨fun pins s σ H Q I h => ?_⟩
  refine PySem.W.methodCall_KW (pl := pl) (thn (he.run pins s σ H _ I h) fun u s1 ⟨x, H1, I1, rx, a, dx, fs, ex, ea, l, q⟩ => ?_) ht
  subst ex
  obtain rfl : u = Value.ref a := rx
  refine getmeth_ok I1 ea c hm l ?_
  refine PySem.W.callWith_K (first := [.ref a]) (h₀ := X.base) I.ok.mod.kin hm.kp (thn (ha.run pos pins s1 σ H1 _ I1 q) fun us s2 ⟨vs, H2, I2, r, L, ws, hL, q2⟩ => ⟨I2.kIn, ?_⟩) hst hpl
  exact run_fnF (us := .ref a :: us) (vs := .ref a :: vs) F hr hb I2 (.cons rfl r) hL q2
end
end Bk
end
section
local macro_rules | `(tactic| walk_at "rd1") => `(tactic| first
  | with_reducible refine Bk.rd_seq ?_
  | ((with_reducible refine' Bk.rd_var ?k1 ?_); (case k1 => exact rfl))
  | with_reducible refine Bk.rd_c ?_
  | with_reducible refine Bk.rd_op ?_
  | with_reducible refine Bk.rd_I0 ?_
  | ((with_reducible refine' Bk.rd_I ?k1 ?_); (case k1 => first | assumption | omega))
  | with_reducible refine Bk.rd_test ?_
  | with_reducible refine Bk.rd_tB ?_
  | with_reducible refine Bk.rd_bl ?_
  | ((with_reducible refine' Bk.rd_eq ?k1 ?_); (case k1 => exact rfl))
  | ((with_reducible refine' Bk.rd_ne ?k1 ?_); (case k1 => exact rfl))
  | with_reducible refine Bk.rd_and ?_
  | with_reducible refine Bk.rd_or ?_
  | with_reducible refine Bk.rd_not ?_
  | with_reducible refine Bk.rd_andV ?_
  | with_reducible refine Bk.rd_isN ?_
  | with_reducible refine Bk.rd_notN ?_
  | with_reducible refine Bk.rd_asg ?_
  | with_reducible refine Bk.rd_nm ?_
  | with_reducible refine Bk.rd_ret ?_
  | with_reducible refine Bk.rd_drop ?_
  | with_reducible refine Bk.rd_if ?_
  | with_reducible refine Bk.rd_ifE ?_
  | ((with_reducible refine' Bk.rd_aug ?k1 ?_); (case k1 => exact rfl))
  | with_reducible refine Bk.rd_ipI ?_
  | with_reducible refine Bk.rd_nil ?_
  | with_reducible refine Bk.rd_cons ?_
  | with_reducible refine Bk.rd_CB ?_
  | with_reducible refine Bk.rd_call ?_
  | with_reducible refine Bk.rd_callS ?_
  | with_reducible refine Bk.rd_un ?_
  | with_reducible refine Bk.rd_U ?_
  | with_reducible refine Bk.rd_fld ?_
  | with_reducible refine Bk.rd_sfld ?_
  | with_reducible refine Bk.rd_tup ?_
  | with_reducible refine Bk.rd_lst ?_
  | with_reducible refine Bk.rd_next ?_
  | with_reducible refine Bk.rd_brk ?_
  | with_reducible refine Bk.rd_BM ?_
  | with_reducible refine Bk.rd_BM0 ?_
  | with_reducible refine Bk.rd_for ?_
  | with_reducible refine Bk.rd_iStr ?_
  | with_reducible refine Bk.rd_fldaug ?_
  | with_reducible refine Bk.rd_mkO ?_
  | with_reducible refine Bk.rd_js ?_
  | with_reducible refine Bk.rd_js0 ?_
  | with_reducible refine Bk.rd_fmt ?_
  | with_reducible refine Bk.rd_erI ?_
  | with_reducible refine Bk.rd_erSet ?_
  | with_reducible refine Bk.rd_lc ?_
  | with_reducible refine Bk.rd_yes' ?_
  | with_reducible refine Bk.rd_iList ?_
  | with_reducible refine Bk.rd_iTup ?_
  | with_reducible refine Bk.rd_iRng1 ?_
  | with_reducible refine Bk.rd_iEnum ?_
  | with_reducible refine Bk.rd_iZip ?_
  | with_reducible refine Bk.rd_iEnumT ?_
  | with_reducible refine Bk.rd_M1 ?_
  | with_reducible refine Bk.rd_dget2 ?_
  | with_reducible refine Bk.rd_dput ?_
  | with_reducible refine Bk.rd_sl ?_
  | with_reducible refine Bk.rd_noPart ?_
  | with_reducible refine Bk.rd_part ?_
  | with_reducible refine Bk.rd_int ?_
  | with_reducible refine Bk.rd_str ?_
  | with_reducible refine Bk.rd_isstr ?_
  | with_reducible refine Bk.rd_make ?_
  | with_reducible refine Bk.rd_meth ?_
  | with_reducible refine L2.iteT ?_
  | with_reducible refine L2.iteF ?_)
local macro_rules | `(tactic| walk_at "rd") => `(tactic| repeat (walk_at "rd1"))
local macro_rules | `(tactic| walk_at "few") => `(tactic| first | exact (show (0 : Nat) < 1000 by decide) | exact (show (1 : Nat) < 1000 by decide) | exact (show (2 : Nat) < 1000 by decide) | exact (show (3 : Nat) < 1000 by decide) | exact (show (4 : Nat) < 1000 by decide) | exact (show (5 : Nat) < 1000 by decide) | exact (show (6 : Nat) < 1000 by decide) | exact (show (7 : Nat) < 1000 by decide))

/-! the text's tokens: the defs of tokens.py -/
namespace Bk
open PySem hiding Tok
open PySem.Spec PyProof.Rows L2
open VamvsBase (isBlank isDigit isLetter token lex Tok PTok Toks numberOf decimal SIGNS RESERVED word tokEq NAME NUMBER)
section
variable {P : Program} {w : World} {K : PySem.W.Frag} {mg : Str → Option Value} {base : Heap} {c : Cs}
/-- all that was there stands -/
abbrev Ex (H H' : Hp) : Prop := ∀ b o, H b = some o → H' b = some o
theorem Ex.new {H : Hp} {p : Addr} {o : HO} (h : H p = none) : Ex H (upd H p o) := fun a u e => by
  rw [upd_ne (ne_of_none e h)]; exact e
theorem Ex.mut {H H' : Hp} {p : Addr} {o : HO} (e : Ex H H') (h : H p = none) : Ex H (upd H' p o) := fun a u ha => by
  rw [upd_ne (ne_of_none ha h)]; exact e a u ha
theorem Ex.none {H H' : Hp} {p : Addr} (e : Ex H H') (h : H' p = none) : H p = none := by
  cases q : H p with
  | none => rfl
  | some o => rw [e p o q] at h; cases h
/-- how many of a list's first ones are among those -/
def run (a : List Nat) (l : List Nat) : Nat := (l.takeWhile fun c => decide (c ∈ a)).length
theorem run_cons_yes {a l : List Nat} {c : Nat} (h : c ∈ a) : run a (c :: l) = run a l + 1 := by
  unfold run; rw [List.takeWhile_cons, if_pos (decide_eq_true h)]; rfl
theorem run_cons_no {a l : List Nat} {c : Nat} (h : c ∉ a) : run a (c :: l) = 0 := by
  unfold run; rw [List.takeWhile_cons, if_neg (by simpa using h)]; rfl
theorem drop_cons {α : Type} {l : List α} {n : Nat} (h : n < l.length) : l.drop n = l[n] :: l.drop (n + 1) := List.drop_eq_getElem_cons h
def spRunEnd : Sp := fun vs H Q _ => ∃ (z a : Str) (n : Nat), vs = [.str z, .int n, .str a] ∧ z.length ≤ sizeLine ∧ n ≤ z.cps.size ∧
  Q (.int (n + run a.cps.toList (z.cps.toList.drop n) : Nat)) H
theorem ok_run_end (T : Txt K mg c) : DefOk P w K mg base CX0 1 "run_end" ["signs", "place", "allowed"] spRunEnd := by
  refine DefOk.make T.d_run_end s_run_end (fun vs H Q E h => ?_) fun f cdv A outer s H vs Q E hr h => ?_
  · obtain ⟨z, a, n, rfl, hz, hn, q⟩ := h
    rfl
  · obtain ⟨z, a, n, rfl, hz, hn, q⟩ := h
    refine ⟨_, (pss_cons (ps_while PassesOwn.never (PW.pt (pw_and (pt_cmpR op_lt (pv 1) (pe_callB call_len_str (by rfl) T.n_len (by decide +kernel) (pa_cons (pv 0) pa_nil)) (nomark _)) (pw_and1 (pt_cmpR op_in_sign (pe_ix ix_str (pv 0) (pv 1) (fun _ _ => rfl)) (pv 2) (by rfl)))))
      (pss_one (ps_aug (i := 1) s_run_end.nd rfl (Or.inl rfl) pe_int ip_add)))
      (pss_one (ps_ret (pv 1)))), ?_⟩
    walk_at "rd"
    refine ⟨fun m σ H' => ∃ k, σ = [some (.str z), some (.int (k : Nat)), some (.str a)] ∧ H' = H ∧ k ≤ z.cps.size ∧ m = z.cps.size - k ∧ n + run a.cps.toList (z.cps.toList.drop n) = k + run a.cps.toList (z.cps.toList.drop k), ⟨_, n, rfl, rfl, hn, rfl, rfl⟩, ?_⟩
    rintro m σ H' ⟨k, rfl, rfl, hk, rfl, he⟩
    walk_at "rd"
    refine ⟨z, rfl, hz, ?_⟩
    walk_at "rd"
    have hzl : z.length = z.cps.size := rfl
    refine rd_ite (fun hlt => ?_) (fun hge => ?_)
    · have hk2 : k < z.cps.size := by rw [hzl] at hlt; omega
      have hget : z.cps.toList[k]? = some z.cps.toList[k] := List.getElem?_eq_getElem (by simpa using hk2)
      have hdrop : z.cps.toList.drop k = z.cps.toList[k] :: z.cps.toList.drop (k + 1) := List.drop_eq_getElem_cons (by simpa using hk2)
      walk_at "rd"
      refine ⟨z, k, z.cps.toList[k], rfl, rfl, hz, atI_nat hget, ?_⟩
      walk_at "rd"
      refine ⟨_, a, rfl, rfl, ?_⟩
      walk_at "rd"
      refine rd_ite (fun hin => ?_) (fun hin => ?_)
      · refine ⟨_, fun _ _ h => h, ?_⟩
        walk_at "rd"
        refine ⟨z.cps.size - (k + 1), by omega, k + 1, rfl, rfl, hk2, rfl, ?_⟩
        rw [he, hdrop, run_cons_yes hin]; omega
      · walk_at "rd"
        rw [he, hdrop, run_cons_no hin] at q
        exact q
    · walk_at "rd"
      have hk2 : k = z.cps.size := by rw [hzl] at hge; omega
      rw [he, hk2, List.drop_eq_nil_of_le (by simp)] at q
      rw [hk2]
      exact q
/-- where a remark ends -/
def spRemarkEnd : Sp := fun vs H Q _ => ∃ (l : List UInt8) (n : Nat), vs = [.str (tx l), .int n] ∧ l.length ≤ sizeLine ∧ n ≤ l.length ∧
  Q (.int (n + ((l.drop n).takeWhile (· != 10)).length : Nat)) H
theorem find_nl {l : List UInt8} {n : Nat} (hn : n ≤ l.length) : Txt.find3 (tx l) ⟨#[10]⟩ n = if n + ((l.drop n).takeWhile (· != 10)).length < l.length then ((n + ((l.drop n).takeWhile (· != 10)).length : Nat) : Int) else -1 := by
  have hfrom : fromIndex (tx l).length n = n := by
    rw [tx_len]
    unfold fromIndex
    split <;> omega
  have hget : ∀ v, v < l.length → (tx l).cps.getD v 0 = sgn (l.getD v 0) := fun v hv => by
    unfold tx
    simp [Array.getD, hv]
  have key : ∀ v, v < l.length → ((tx l).cps.getD v 0 = 10 ↔ l.getD v 0 = 10) := fun v hv => by
    rw [hget v hv]
    have := sgn_nl (l.getD v 0)
    constructor
    · intro e; rw [e] at this; simpa using this.symm
    · intro e; rw [e] at this ⊢; decide
  -- the first 10 from n on
  have tw : ∀ (r : List UInt8) (v : Nat), v < (r.takeWhile (· != 10)).length → r.getD v 0 ≠ 10 := by
    intro r
    induction r with
    | nil => intro v h; simp at h
    | cons b t ih =>
      intro v h
      rw [List.takeWhile_cons] at h
      by_cases hb : b = 10
      · subst hb; simp at h
      · rw [if_pos (by simpa using hb)] at h
        cases v with
        | zero => simpa using hb
        | succ v => simpa using ih v (by simpa using h)
  have tw2 : ∀ (r : List UInt8), (r.takeWhile (· != 10)).length < r.length → r.getD (r.takeWhile (· != 10)).length 0 = 10 := by
    intro r
    induction r with
    | nil => intro h; simp at h
    | cons b t ih =>
      intro h
      rw [List.takeWhile_cons] at h ⊢
      by_cases hb : b = 10
      · subst hb; simp
      · rw [if_pos (by simpa using hb)] at h ⊢
        simpa using ih (by simpa using h)
  have gd : ∀ v, n ≤ v → (l.drop n).getD (v - n) 0 = l.getD v 0 := fun v hv => by
    rw [List.getD_eq_getElem?_getD, List.getD_eq_getElem?_getD, List.getElem?_drop]
    congr 2; omega
  have hle := tw_len (f := (· != 10)) (l.drop n)
  rw [List.length_drop] at hle
  rcases StrLaws.find3_spec (tx l) 10 n with ⟨e, hno⟩ | ⟨k, e, h1, h2, h3, h4⟩
  · rw [hfrom] at hno
    rw [e, if_neg]
    intro hlt
    have q := tw2 (l.drop n) (by rw [List.length_drop]; omega)
    have q2 := gd (n + ((l.drop n).takeWhile (· != 10)).length) (by omega)
    rw [show n + ((l.drop n).takeWhile (· != 10)).length - n = ((l.drop n).takeWhile (· != 10)).length by omega, q] at q2
    exact hno (n + ((l.drop n).takeWhile (· != 10)).length) (by omega) (by rw [tx_len]; exact hlt) ((key _ hlt).mpr q2.symm)
  · rw [hfrom] at h1 h4
    rw [tx_len] at h2
    have h5 : l.getD k 0 = 10 := (key k h2).mp h3
    have hk : n + ((l.drop n).takeWhile (· != 10)).length = k := by
      rcases Nat.lt_trichotomy (n + ((l.drop n).takeWhile (· != 10)).length) k with c | c | c
      · exfalso
        have q := tw2 (l.drop n) (by rw [List.length_drop]; omega)
        have q2 := gd (n + ((l.drop n).takeWhile (· != 10)).length) (by omega)
        rw [show n + ((l.drop n).takeWhile (· != 10)).length - n = ((l.drop n).takeWhile (· != 10)).length by omega, q] at q2
        exact h4 _ (by omega) c ((key _ (by omega)).mpr q2.symm)
      · exact c
      · exfalso
        have q := tw (l.drop n) (k - n) (by omega)
        rw [gd k h1] at q
        exact q h5
    rw [e, hk, if_pos h2]
theorem ok_remark_end (T : Txt K mg c) : DefOk P w K mg base CX0 1 "remark_end" ["signs", "place"] spRemarkEnd := by
  refine DefOk.make T.d_remark_end s_remark_end (fun vs H Q E h => ?_) fun f cdv A outer s H vs Q E hr h => ?_
  · obtain ⟨l, n, rfl, hl, hn, q⟩ := h
    rfl
  · obtain ⟨l, n, rfl, hl, hn, q⟩ := h
    refine ⟨_, (pss_cons (ps_set (i := 2) s_remark_end.nd rfl (Or.inl rfl) (pe_bm PySem.F.plainAttrs_str PySem.F.slot_str_find PySem.F.type_str_find mt_find3 (pv 0) (pa_cons pe_str (pa_cons (pv 1) pa_nil))))
      (pss_one (ps_ret (pe_ifExp (pt_cmpR op_lt (pv 2) pe_int (nomark _)) (pe_callB call_len_str (by rfl) T.n_len (by decide +kernel) (pa_cons (pv 0) pa_nil)) (pv 2))))), ?_⟩
    walk_at "rd"
    refine ⟨rfl, ?_⟩
    walk_at "rd"
    refine ⟨tx l, _, n, rfl, rfl, ?_⟩
    walk_at "rd"
    have e10 : (Str.ofString "\n") = ⟨#[10]⟩ := by decide +kernel
    rw [e10, find_nl hn]
    have hle := tw_len (f := (· != 10)) (l.drop n)
    rw [List.length_drop] at hle
    by_cases hlt : n + ((l.drop n).takeWhile (· != 10)).length < l.length
    · rw [if_pos hlt]
      refine rd_no (by omega) ?_
      walk_at "rd"
      exact q
    · rw [if_neg hlt]
      refine rd_yes (by decide) ?_
      walk_at "rd"
      refine ⟨tx l, rfl, by rw [tx_len]; exact hl, ?_⟩
      rw [tx_len, show l.length = n + ((l.drop n).takeWhile (· != 10)).length by omega]
      exact q
theorem tx_at {l : List UInt8} {k : Nat} (h : k < l.length) : atI (tx l).cps.toList (k : Int) = some (sgn l[k]) := atI_nat (by rw [tx_list, List.getElem?_map, List.getElem?_eq_getElem h]; rfl)
/-- blanks and remarks are passed -/
def spPast : Sp := fun vs H Q _ => ∃ (l : List UInt8) (n : Nat), vs = [.str (tx l), .int n] ∧ l.length ≤ sizeLine ∧ n ≤ l.length ∧
  ∀ m : Nat, n ≤ m → m ≤ l.length → lexF n (l.drop n) = lexF m (l.drop m) → Clear (l.drop m) → Q (.int m) H
theorem ok_past_blanks (T : Txt K mg c) : DefOk P w K mg base CX0 2 "past_blanks" ["signs", "place"] spPast := by
  obtain ⟨f_remark_end, fd_remark_end, g_remark_end, k_remark_end, b_remark_end, F_remark_end⟩ := ok_remark_end (P := P) (w := w) (base := base) T
  refine DefOk.make T.d_past_blanks s_past_blanks (fun vs H Q E h => ?_) fun f cdv A outer s H vs Q E hr h => ?_
  · obtain ⟨l, n, rfl, hl, hn, q⟩ := h
    rfl
  · obtain ⟨l, n, rfl, hl, hn, q⟩ := h
    refine ⟨_, (pss_cons (ps_while PassesOwn.never (pt_cmpR op_lt (pv 1) (pe_callB call_len_str (by rfl) T.n_len (by decide +kernel) (pa_cons (pv 0) pa_nil)) (nomark _))
      (pss_one (ps_if (pt_cmpR op_eq (pe_ix ix_str (pv 0) (pv 1) (fun _ _ => rfl)) (pe_glob rfl T.c_REMARK.choose_spec.1 T.c_REMARK.choose_spec.2) (nomark _))
      (pss_one (ps_set (i := 1) s_past_blanks.nd rfl (Or.inl rfl) (pe_call F_remark_end (hr.mono (by decide)) rfl g_remark_end k_remark_end b_remark_end .nil pass0 (pa_cons (pv 0) (pa_cons (pv 1) pa_nil)))))
      (pss_one (ps_if (pt_cmpR op_in_sign (pe_ix ix_str (pv 0) (pv 1) (fun _ _ => rfl)) (pe_glob rfl T.c_BLANKS.choose_spec.1 T.c_BLANKS.choose_spec.2) (by rfl))
      (pss_one (ps_aug (i := 1) s_past_blanks.nd rfl (Or.inl rfl) pe_int ip_add))
      (pss_one ps_break))))))
      (pss_one (ps_ret (pv 1)))), ?_⟩
    walk_at "rd"
    refine ⟨fun m σ H' => ∃ k, σ = [some (.str (tx l)), some (.int (k : Nat))] ∧ H' = H ∧ n ≤ k ∧ k ≤ l.length ∧ m = l.length - k ∧ lexF n (l.drop n) = lexF k (l.drop k), ⟨_, n, rfl, rfl, Nat.le_refl _, hn, rfl, rfl⟩, ?_⟩
    rintro m σ H' ⟨k, rfl, rfl, hnk, hk, rfl, he⟩
    walk_at "rd"
    refine ⟨tx l, rfl, by rw [tx_len]; exact hl, ?_⟩
    walk_at "rd"
    rw [tx_len]
    refine rd_ite (fun hlt => ?_) (fun hge => ?_)
    · have hlt : k < l.length := by omega
      have hd := drop_cons hlt
      refine ⟨_, fun _ _ h => h, ?_⟩
      walk_at "rd"
      refine ⟨tx l, k, sgn l[k], rfl, rfl, by rw [tx_len]; exact hl, tx_at hlt, ?_⟩
      walk_at "rd"
      have e35 : (Str.ofString "#") = ⟨#[35]⟩ := by decide +kernel
      have ebl : (Str.ofString " \t\n").cps.toList = [32, 9, 10] := by decide +kernel
      rw [e35]
      refine rd_ite (fun hh => ?_) (fun hh => ?_)
      · have hs : sgn l[k] = 35 := by injection hh with hh; injection hh with hh; simpa using hh
        have hb : l[k] = 35 := by have := sgn_hash l[k]; rw [hs] at this; simpa using this.symm
        walk_at "rd"
        refine ⟨l, k, rfl, hl, hk, ?_⟩
        walk_at "rd"
        rw [hd, hb] at he
        rw [lexF_hash] at he
        have e1 : (l.drop k).takeWhile (· != 10) = 35 :: (l.drop (k + 1)).takeWhile (· != 10) := by rw [hd, hb]; rfl
        have hle := tw_len (f := (· != 10)) (l.drop k)
        rw [List.length_drop] at hle
        rw [e1, List.length_cons] at hle ⊢
        refine ⟨l.length - (k + (((l.drop (k + 1)).takeWhile (· != 10)).length + 1)), by omega, _, rfl, rfl, by omega, by omega, rfl, ?_⟩
        rw [he, ← tw_drop, List.drop_drop]
        congr 1 <;> first | omega | (congr 1; omega)
      · have hb : l[k] ≠ 35 := fun z => hh (by rw [z]; rfl)
        walk_at "rd"
        refine ⟨tx l, k, sgn l[k], rfl, rfl, by rw [tx_len]; exact hl, tx_at hlt, ?_⟩
        walk_at "rd"
        refine ⟨sgn l[k], _, rfl, rfl, ?_⟩
        walk_at "rd"
        rw [ebl, sgn_blank]
        refine rd_iteB (fun hbl => ?_) (fun hbl => ?_)
        · walk_at "rd"
          refine ⟨l.length - (k + 1), by omega, k + 1, rfl, rfl, by omega, hlt, rfl, ?_⟩
          rw [he, hd, lexF_blank hbl]
        · walk_at "rd"
          exact q k hnk hk he (Or.inr ⟨_, _, hd, hbl, hb⟩)
    · walk_at "rd"
      have hk2 : k = l.length := by omega
      exact q k hnk hk he (Or.inl (by rw [hk2]; exact List.drop_eq_nil_of_le (Nat.le_refl _)))
theorem joinL_nil : ∀ ps : List (List Nat), TL.joinL [] ps = ps.flatten
  | [] => rfl
  | [p] => by simp [TL.joinL]
  | p :: q :: r => by
    show p ++ ([] ++ TL.joinL [] (q :: r)) = _
    rw [joinL_nil (q :: r)]; simp
theorem join_empty (ys : List Str) : TL.tl (Txt.join (Str.ofString "") ys) = (ys.map TL.tl).flatten := by
  rw [TL.join_eq, TL.tl_join]
  have e : TL.tl (Str.ofString "") = [] := by decide +kernel
  rw [e, joinL_nil]
theorem join_tx (l : List UInt8) : Txt.join (Str.ofString "") (l.map fun b => (⟨#[sgn b]⟩ : Str)) = tx l := by
  refine TL.ext_tl ?_
  rw [join_empty]
  show _ = l.map sgn
  induction l with
  | nil => rfl
  | cons b r ih => rw [List.map_cons, List.map_cons, List.flatten_cons, ih]; rfl
/-- the bytes as a text -/
def bv (b : UInt8) : V := .int (b.toNat : Int)
def spAsSigns (K : PySem.W.Frag) : Sp := fun vs H Q _ => ∃ (a : Addr) (l : List UInt8), vs = [.ref a] ∧ SqL K H a (l.map bv) ∧ l.length ≤ 10000 ∧ ∀ H', Ex H H' → Q (.str (tx l)) H'
def allCodes : List Nat := lCodes ++ dCodes ++ [44, 58, 59, 45] ++ [32, 9, 10] ++ [35]
theorem known_codes (b : UInt8) : decide (b.toNat ∈ allCodes) = known b := by
  have h := u8_all (p := fun b => decide (b.toNat ∈ allCodes) == known b) (by decide +kernel) b
  simpa using h
theorem seq_ex {K : PySem.W.Frag} {H H' : Hp} {a : Addr} {xs : List V} (e : Ex H H') (h : SqL K H a xs) : SqL K H' a xs := Same.seq e h
theorem tup_ex {K : PySem.W.Frag} {H H' : Hp} {a : Addr} {xs : List V} (e : Ex H H') (h : SqT K H a xs) : SqT K H' a xs := by
  rcases h with (h | ⟨o, h⟩) | h
  · exact .inl (.inl (e _ _ h))
  · exact .inl (.inr ⟨o, e _ _ h⟩)
  · exact .inr h
theorem take_snoc {α : Type} {l : List α} {i : Nat} {x : α} (h : l[i]? = some x) : l.take (i + 1) = l.take i ++ [x] := by
  rw [List.take_add_one, h]; rfl
theorem ok_as_signs (T : Txt K mg c) : DefOk P w K mg base CX0 1 "as_signs" ["text"] (spAsSigns K) := by
  refine DefOk.make T.d_as_signs s_as_signs (fun vs H Q E h => ?_) fun f cdv A outer s H vs Q E hr h => ?_
  · obtain ⟨a, l, rfl, hs, hl, q⟩ := h
    rfl
  · obtain ⟨a, l, rfl, hs, hl, q⟩ := h
    refine ⟨_, (pss_cons (ps_set (i := 1) s_as_signs.nd rfl (Or.inr rfl) pe_dnewK)
      (pss_cons (ps_for PassesOwn.never rfl (pi_str (pe_op op_add_str (pe_op op_add_str (pe_op op_add_str (pe_op op_add_str (pe_glob rfl T.c_LETTERS.choose_spec.1 T.c_LETTERS.choose_spec.2) (pe_glob rfl T.c_DIGITS.choose_spec.1 T.c_DIGITS.choose_spec.2)) (pe_glob rfl T.c_SIGNS.choose_spec.1 T.c_SIGNS.choose_spec.2)) (pe_glob rfl T.c_BLANKS.choose_spec.1 T.c_BLANKS.choose_spec.2)) (pe_glob rfl T.c_REMARK.choose_spec.1 T.c_REMARK.choose_spec.2))) (pg_name (i := 2) s_as_signs.nd rfl (Or.inl rfl))
      (pss_one (ps_dput (hu_of hr) (pv 1) (pe_callB call_ord (by rfl) T.n_ord (by decide +kernel) (pa_cons (pv 2) pa_nil)) (pv 2) rfl)))
      (pss_one (ps_ret (pe_join pe_str (pe_lc (own := [("byte", 3)]) rfl s_as_signs.nd (pi_list (pv 0)) (blkOk_by (own := [("byte", 3)]) (N := N_as_signs) (sc := defScope (top 41)) (by decide +kernel)) (fun _ _ _ _ _ => (pg_name (i := 3) s_as_signs.nd rfl (Or.inl rfl))) (fun _ _ _ _ _ => pts_nil) (fun _ _ _ _ _ => (pe_dget2 (hu_of hr) (pv 1) (pv 3) (pe_glob rfl T.c_STRANGE.choose_spec.1 T.c_STRANGE.choose_spec.2) ⟨rfl, rfl, rfl, rfl⟩)))))))), ?_⟩
    walk_at "rd"
    intro p hp
    walk_at "rd"
    refine ⟨_, _, rfl, rfl, by decide, ?_⟩
    walk_at "rd"
    refine ⟨_, _, rfl, rfl, by decide, ?_⟩
    walk_at "rd"
    refine ⟨_, _, rfl, rfl, by decide, ?_⟩
    walk_at "rd"
    refine ⟨_, _, rfl, rfl, by decide, ?_⟩
    walk_at "rd"
    have hz : TL.tl (Str.ofString "ABCDEFGHIJKLMNOPQRSTUVWXYZabcdefghijklmnopqrstuvwxyz" ++ Str.ofString "0123456789" ++ Str.ofString ",:;-" ++ Str.ofString " \t\n" ++ Str.ofString "#") = allCodes := by decide +kernel
    generalize (Str.ofString "ABCDEFGHIJKLMNOPQRSTUVWXYZabcdefghijklmnopqrstuvwxyz" ++ Str.ofString "0123456789" ++ Str.ofString ",:;-" ++ Str.ofString " \t\n" ++ Str.ofString "#") = z at hz
    have hzs : z.cps.size = 70 := by
      have := congrArg List.length hz
      rw [Array.length_toList] at this
      rw [this]; rfl
    refine for_it walk_str (fun i σ H' => ∃ (kvs : List (Key × V)) (x : Option V), σ = [some (.ref a), some (.ref p), x, none] ∧ H' = upd H p (.dK kvs) ∧ kvs.length ≤ i ∧
      ∀ n : Nat, valV kvs (.inl (n : Int)) = if n ∈ allCodes.take i then some (.str ⟨#[n]⟩) else none) ⟨[], none, rfl, rfl, Nat.le_refl _, fun n => by simp [valV_nil]⟩ (fun _ _ _ _ _ => trivial) ?_ ?_
    · rintro i x σ H' H'' hi ⟨kvs, x0, rfl, rfl, hk, hv⟩ ⟨rfl, cd, hcd, rfl⟩
      have hcd' : allCodes[i]? = some cd := by rw [← hz]; simpa using hcd
      walk_at "rd"
      refine ⟨_, rfl, rfl, ?_⟩
      walk_at "rd"
      refine ⟨p, _, rfl, DPut.k (k := Sum.inl (cd : Int)) upd_same (by have : sizeLine = 16777216 := rfl; omega), ?_⟩
      refine ⟨putK kvs (Sum.inl (cd : Int)) (.str ⟨#[cd]⟩), _, rfl, by rw [upd_upd], Nat.le_trans (length_putK _ _ _) (by omega), fun n => ?_⟩
      rw [valV_put, take_snoc hcd']
      by_cases e : n = cd
      · subst e
        rw [if_pos rfl, if_pos (by simp)]
      · rw [if_neg (fun z => e (by injection z with z; omega)), hv n]
        have : (n ∈ allCodes.take i ++ [cd]) ↔ n ∈ allCodes.take i := by simp [e]
        simp only [this]
    · rintro σ H' ⟨kvs, x0, rfl, rfl, hk, hv⟩
      rw [hzs, List.take_of_length_le (by decide)] at hv
      walk_at "rd"
      have ne : ∀ {b o}, H b = some o → b ≠ p := fun h => ne_of_none h hp
      have hs1 : SqL K (upd H p (.dK kvs)) a (l.map bv) := seq_ex (Ex.new hp) hs
      refine ⟨a, rfl, ⟨_, hs1⟩, fun D hD => ?_⟩
      have hDp : D ≠ p := fun z => by rw [z, upd_same] at hD; cases hD
      refine lc_list (K := K) (xs := l.map bv) (fun i H' => H' = upd (upd H p (.dK kvs)) D (.lst ((l.take i).map fun b => V.str ⟨#[sgn b]⟩))) rfl ?_ ?_ ?_
      · rintro i H' hi rfl
        exact seq_ex (Ex.new hD) hs1
      · rintro i x H' hx rfl
        rw [List.getElem?_map] at hx
        obtain ⟨b, hb, rfl⟩ := Option.map_eq_some_iff.mp hx
        walk_at "rd"
        refine ⟨rfl, ?_⟩
        walk_at "rd"
        have hd2 : upd (upd H p (.dK kvs)) D (.lst ((l.take i).map fun b => V.str ⟨#[sgn b]⟩)) p = some (.dK kvs) := by rw [upd_ne (Ne.symm hDp), upd_same]
        refine ⟨p, rfl, Or.inl ⟨kvs, Or.inl hd2⟩, ?_⟩
        walk_at "rd"
        refine ⟨_, DGet.k (k := Sum.inl (b.toNat : Int)) hd2, ?_⟩
        refine ⟨_, upd_same, ?_, ?_⟩
        · have : sizeLine = 16777216 := rfl
          rw [List.length_map, List.length_take]; omega
        · rw [upd_upd, take_snoc hb, List.map_append, hv b.toNat]
          congr 3
          have hk2 := known_codes b
          by_cases hkn : known b = true
          · rw [hkn] at hk2
            rw [if_pos (of_decide_eq_true hk2)]
            show [V.str ⟨#[b.toNat]⟩] = [V.str ⟨#[sgn b]⟩]
            rw [sgn_known hkn]
          · have hkf : known b = false := by simpa using hkn
            rw [hkf] at hk2
            rw [if_neg (of_decide_eq_false hk2)]
            show [V.str (Str.ofString "?")] = [V.str ⟨#[sgn b]⟩]
            have e63 : sgn b = 63 := by unfold sgn; rw [if_neg hkn]
            rw [show (Str.ofString "?") = (⟨#[63]⟩ : Str) by decide +kernel, e63]
      · rintro H' rfl
        rw [List.length_map, List.take_length]
        refine ⟨_, D, l.map fun b => (⟨#[sgn b]⟩ : Str), rfl, rfl, Or.inl (Or.inl (Or.inl ?_)), ?_, ?_⟩
        · rw [upd_same, List.map_map]; rfl
        · have e0 : (Str.ofString "").length = 0 := by decide +kernel
          rw [e0, Nat.mul_zero, Nat.add_zero, List.map_map]
          have : ∀ m : List UInt8, (m.map ((fun x : Str => x.length) ∘ fun b => (⟨#[sgn b]⟩ : Str))).sum = m.length := by
            intro m
            induction m with
            | nil => rfl
            | cons b r ih => rw [List.map_cons, List.sum_cons, ih, List.length_cons]; show 1 + _ = _; omega
          rw [this]; omega
        · rw [join_tx]
          refine q _ (fun b o e => ?_)
          rw [upd_ne (ne_of_none ((Ex.new hp) b o e) hD)]
          exact (Ex.new hp) b o e
/-! ### numbers -/
theorem digit_range (b : UInt8) (h : isDigit b = true) : 48 ≤ sgn b ∧ sgn b ≤ 57 ∧ sgn b = b.toNat := by
  have q := u8_all (p := fun b => !isDigit b || (decide (48 ≤ sgn b) && (decide (sgn b ≤ 57) && decide (sgn b = b.toNat)))) (by decide +kernel) b
  rw [h] at q
  simpa using q
theorem digits_val : ∀ (d : List UInt8) (a : Nat), (∀ b ∈ d, isDigit b = true) → (d.map sgn).foldl (fun acc c => acc * 10 + (c - 48)) a = d.foldl (fun n b => 10 * n + (b.toNat - 48)) a
  | [], _, _ => rfl
  | b :: r, a, h => by
    obtain ⟨_, _, e⟩ := digit_range b (h b (by simp))
    rw [List.map_cons, List.foldl_cons, List.foldl_cons, e, Nat.mul_comm a 10]
    exact digits_val r _ fun x hx => h x (List.mem_cons_of_mem _ hx)
theorem int_digits {d : List UInt8} (h : ∀ b ∈ d, isDigit b = true) (h0 : d ≠ []) (h1 : d.length ≤ 640) : intText? (tx d) = some ((decimal d : Nat) : Int) := by
  have e := PySem.intText_digits (x := tx d) (fun cc hc => by
    rw [tx_list] at hc
    obtain ⟨b, hb, rfl⟩ := List.mem_map.mp hc
    obtain ⟨q1, q2, _⟩ := digit_range b (h b hb)
    exact ⟨q1, q2⟩) (by rw [tx_list]; simpa using h0) (by rw [tx_len]; omega)
  rw [e, tx_list]
  congr 2
  exact digits_val d 0 h
def spIsNumber : Sp := fun vs H Q _ => ∃ d : List UInt8, vs = [.str (tx d)] ∧ d ≠ [] ∧ (∀ b ∈ d, isDigit b = true) ∧ d.length ≤ 10000 ∧ Q (.bl (numberOf d).isSome) H
theorem num_some {d : List UInt8} (h0 : d ≠ []) (h1 : d.length ≤ 10) (h2 : ¬ (1 < d.length ∧ d.head? = some 48)) (h3 : decimal d ≤ 1000000000) : numberOf d = some (decimal d) := by
  unfold numberOf
  rw [if_neg]
  intro z
  rcases z with z | z | z | z
  · exact h0 z
  · omega
  · exact h2 z
  · exact absurd z (Nat.not_lt.mpr h3)
theorem ok_is_number (T : Txt K mg c) : DefOk P w K mg base CX0 1 "is_number" ["digits"] spIsNumber := by
  refine DefOk.make T.d_is_number s_is_number (fun vs H Q E h => ?_) fun f cdv A outer s H vs Q E hr h => ?_
  · obtain ⟨d, rfl, h0, hd, hl, q⟩ := h
    rfl
  · obtain ⟨d, rfl, h0, hd, hl, q⟩ := h
    refine ⟨_, (pss_cons (ps_if (pt_cmpR op_eq (pe_ix ix_str (pv 0) pe_int (fun _ _ => rfl)) pe_str (nomark _))
      (pss_one (ps_ret (pe_cmpR op_eq (pe_callB call_len_str (by rfl) T.n_len (by decide +kernel) (pa_cons (pv 0) pa_nil)) pe_int (nomark _))))
      pss_nil)
      (pss_one (ps_ret (pe_and (pe_cmpR op_le (pe_callB call_len_str (by rfl) T.n_len (by decide +kernel) (pa_cons (pv 0) pa_nil)) (pe_glob rfl T.c_MOST_DIGITS.choose_spec.1 T.c_MOST_DIGITS.choose_spec.2) (nomark _)) (pe_one (pe_cmpR op_le (pe_callTy call_int_str (by rfl) T.n_int (by decide +kernel) (pa_cons (pv 0) pa_nil)) (pe_glob rfl T.c_GREATEST_NUMBER.choose_spec.1 T.c_GREATEST_NUMBER.choose_spec.2) (nomark _))))))), ?_⟩
    walk_at "rd"
    have hsz : sizeLine = 16777216 := rfl
    obtain ⟨b, r, rfl⟩ : ∃ b r, d = b :: r := by cases d with | nil => exact absurd rfl h0 | cons b r => exact ⟨b, r, rfl⟩
    refine ⟨tx (b :: r), 0, sgn b, rfl, rfl, by rw [tx_len]; omega, atI_nat (j := 0) rfl, ?_⟩
    walk_at "rd"
    have e48 : (Str.ofString "0") = ⟨#[48]⟩ := by decide +kernel
    obtain ⟨_, _, eb⟩ := digit_range b (hd b (by simp))
    rw [e48]
    refine rd_ite (fun hz => ?_) (fun hz => ?_)
    · have hb : b = 48 := by
        injection hz with hz; injection hz with hz
        have : sgn b = 48 := by simpa using hz
        rw [eb] at this
        exact UInt8.toNat_inj.mp this
      walk_at "rd"
      refine ⟨tx (b :: r), rfl, by rw [tx_len]; omega, ?_⟩
      walk_at "rd"
      rw [tx_len]
      have : (numberOf (b :: r)).isSome = decide (V.int (((b :: r).length : Nat) : Int) = V.int 1) := by
        by_cases h1 : (b :: r).length = 1
        · have hr : r = [] := by simpa using h1
          subst hr
          rw [num_some h0 (by simp) (by simp) (by rw [hb]; decide), h1]
          rfl
        · have e1 : decide (V.int (((b :: r).length : Nat) : Int) = V.int 1) = false := decide_eq_false (fun z => h1 (by injection z with z; omega))
          rw [e1]
          unfold numberOf
          rw [if_pos]
          · rfl
          · exact Or.inr (Or.inr (Or.inl ⟨by rw [List.length_cons] at h1 ⊢; omega, by rw [hb]; rfl⟩))
      rw [← this]
      exact q
    · have hb : b ≠ 48 := fun z => hz (by rw [eb, z]; rfl)
      walk_at "rd"
      refine ⟨tx (b :: r), rfl, by rw [tx_len]; omega, ?_⟩
      walk_at "rd"
      rw [tx_len]
      refine rd_ite (fun h10 => ?_) (fun h10 => ?_)
      · walk_at "rd"
        refine ⟨tx (b :: r), _, rfl, int_digits hd h0 (by omega), by rw [tx_len]; omega, ?_⟩
        walk_at "rd"
        have : (numberOf (b :: r)).isSome = decide (((decimal (b :: r) : Nat) : Int) ≤ 1000000000) := by
          by_cases h9 : decimal (b :: r) ≤ 1000000000
          · rw [num_some h0 (by omega) (fun z => hb (by simpa using z.2)) h9, decide_eq_true (by omega)]
            rfl
          · rw [decide_eq_false (by omega)]
            unfold numberOf
            rw [if_pos]
            · rfl
            · exact Or.inr (Or.inr (Or.inr (Nat.lt_of_not_le h9)))
        rw [← this]
        exact q
      · have : (numberOf (b :: r)).isSome = false := by
          unfold numberOf
          rw [if_pos]
          · rfl
          · exact Or.inr (Or.inl (by omega))
        rw [this] at q
        exact q
/-! ### tokens and faults as objects -/
def tokF (k t : V) (n e : Int) : List (Str × V) := [("kind", k), ("told", t), ("place", .int n), ("behind", .int e)]
def spTokInit (C : Addr) : Sp := fun vs H Q _ => ∃ (p dx : Addr) (k t : V) (n e : Int), vs = [.ref p, k, t, .int n, .int e] ∧ H p = some (.ins C dx []) ∧ Q .non (upd H p (.ins C dx (tokF k t n e)))
theorem ok_Token_init (T : Txt K mg c) : InitOk P w K mg base CX0 1 c.cToken ["self", "kind", "told", "place", "behind"] (spTokInit c.cToken) := by
  refine InitOk.make T.i_Token s_Token_init (fun vs H Q E h => ?_) fun f cdv A outer s H vs Q E hr h => ?_
  · obtain ⟨p, dx, k, t, n, e, rfl, hp, q⟩ := h
    rfl
  · obtain ⟨p, dx, k, t, n, e, rfl, hp, q⟩ := h
    refine ⟨_, (pss_cons (ps_fld (pv 0) (pv 1) rfl)
      (pss_cons (ps_fld (pv 0) (pv 2) rfl)
      (pss_cons (ps_fld (pv 0) (pv 3) rfl)
      (pss_one (ps_fld (pv 0) (pv 4) rfl))))), ?_⟩
    walk_at "rd"
    refine rd_sfldAt hp T.k_Token T.a_Token_kind (by walk_at "few") ?_
    walk_at "rd"
    refine rd_sfldAt upd_same T.k_Token T.a_Token_told (by walk_at "few") ?_
    walk_at "rd"
    refine rd_sfldAt upd_same T.k_Token T.a_Token_place (by walk_at "few") ?_
    walk_at "rd"
    refine rd_sfldAt upd_same T.k_Token T.a_Token_behind (by walk_at "few") ?_
    rw [upd_upd, upd_upd, upd_upd]
    exact q
/-- what an error tells -/
def faultF (code place : Int) : List (Str × V) := [("place", .int place), ("code", .int code)]
def spFaultInit (C : Addr) : Sp := fun vs H Q _ => ∃ (a : Addr) (n m : Nat), vs = [.ref a, .int n, .int m] ∧ n ≤ 100000 ∧ m ≤ 100000 ∧ H a = some (exo a C none) ∧
  ∀ dx, H dx = none → dx ≠ a → Q .non (upd (upd (upd H dx (exd dx [("code", .int n)])) a (exo a C (some dx))) dx (exd dx (faultF n m)))
theorem ok_Fault_init (T : Txt K mg c) : ErrOk P w K mg base CX0 1 c.cFault ["self", "code", "place"] (spFaultInit c.cFault) := by
  refine ErrOk.make T.k_Fault s_Fault_init (fun vs H Q E h => ?_) fun f cdv A outer s H vs Q E hr h => ?_
  · obtain ⟨a, n, m, rfl, hn, hm, ha, q⟩ := h
    rfl
  · obtain ⟨a, n, m, rfl, hn, hm, ha, q⟩ := h
    refine ⟨_, (pss_cons (ps_expr (pe_erInit rfl T.n_Exception T.k_Fault.2.2.2.2.1 (pa_cons (pv 0) (pa_cons (pe_joined (.cons pe_str (.cons (pe_fmt (pv 1)) (.cons pe_str (.cons (pe_fmt (pv 2)) .nil))))) pa_nil))))
      (pss_cons (ps_erSet (pv 0) (pv 1) rfl)
      (pss_one (ps_erSet (pv 0) (pv 2) rfl)))), ?_⟩
    walk_at "rd"
    have small : ∀ k : Nat, k ≤ 100000 → ((k : Int).natAbs).log2 < 1920 := fun k hk => by
      rw [Int.natAbs_natCast]
      by_cases h0 : k = 0
      · rw [h0]; decide
      · exact Nat.lt_trans ((Nat.log2_lt h0).mpr (Nat.lt_of_le_of_lt hk (by decide : 100000 < 2 ^ 17))) (by decide)
    have ln := int_text_len_1921 (small n hn)
    have lm := int_text_len_1921 (small m hm)
    have l1 : (Str.ofString "fault ").length = 6 := by decide +kernel
    have l2 : (Str.ofString " at ").length = 4 := by decide +kernel
    have l0 : Str.empty.length = 0 := by decide +kernel
    have hsz : sizeLine = 16777216 := rfl
    have la : ∀ x y : Str, (x ++ y).length = x.length + y.length := fun x y => by rw [TL.len_tl, TL.tl_append, List.length_append, ← TL.len_tl, ← TL.len_tl]
    refine ⟨by rw [la, l0, l1]; omega, ?_⟩
    walk_at "rd"
    refine Or.inr ⟨_, rfl, small n hn, ?_⟩
    walk_at "rd"
    refine ⟨by rw [la, la, l0, l1]; omega, ?_⟩
    walk_at "rd"
    refine ⟨by rw [la, la, la, l0, l1, l2]; omega, ?_⟩
    walk_at "rd"
    refine Or.inr ⟨_, rfl, small m hm, ?_⟩
    walk_at "rd"
    refine ⟨by rw [la, la, la, la, l0, l1, l2]; omega, ?_⟩
    walk_at "rd"
    refine ⟨a, c.cFault, _, rfl, (show 1 ≤ 1000 by decide), T.k_Fault.1, ha, ?_⟩
    walk_at "rd"
    refine ⟨a, c.cFault, rfl, T.k_Fault.1, T.a_Fault_code, Or.inl ⟨ha, fun dx hdx hne => ?_⟩⟩
    walk_at "rd"
    refine ⟨a, c.cFault, rfl, T.k_Fault.1, T.a_Fault_place, Or.inr ⟨dx, _, upd_same, by rw [upd_ne hne, upd_same], ?_, ?_⟩⟩
    · exact (show 1 ≤ 900 by decide)
    exact q dx hdx hne
/-- an error is told; but for what stands at S all is as it was -/
def ErrOut (c : Cs) (E : XK) (S : List Addr) (f : VamvsBase.Fault) (H : Hp) : Prop := ∀ (d : Addr) (H' : Hp), (∀ b o, b ∉ S → H b = some o → H' b = some o) → H' d = some (.xd (faultF f.code f.place)) → E (.ref c.cFault) (some d) H'
theorem ErrOut.mono {E : XK} {S S' : List Addr} {f : VamvsBase.Fault} {H H' : Hp} (e : ErrOut c E S f H) (hS : ∀ a, a ∈ S' → a ∈ S) (k : ∀ b o, b ∉ S → H b = some o → H' b = some o) : ErrOut c E S' f H' := fun d F kF hd => e d F (fun b o hb h => kF b o (fun z => hb (hS b z)) (k b o hb h)) hd
theorem fault_done {E : XK} {n m : Nat} {H : Hp} (hn : n ≤ 100000) (hm : m ≤ 100000) (k : ErrOut c E [] ⟨n, m⟩ H) : [V.int (n : Int), V.int (m : Int)].length ≤ 1000 ∧ ∀ e, H e = none → spFaultInit c.cFault (.ref e :: ([V.int (n : Int), V.int (m : Int)] ++ [])) (upd H e (exo e c.cFault none))
    (fun v F => v = .non ∧ ∃ (d : Addr) (fs : List (Str × V)), F e = some (exo e c.cFault (some d)) ∧ F d = some (exd d fs) ∧ H d = none ∧ E (.ref c.cFault) (some d) (upd (del F e) d (.xd fs))) (fun _ _ _ => False) := by
  refine ⟨(show 2 ≤ 1000 by decide), fun e he => ⟨e, n, m, rfl, hn, hm, upd_same, fun dx hdx hne => ⟨rfl, dx, faultF n m, ?_, upd_same, ?_, ?_⟩⟩⟩
  · rw [upd_ne (Ne.symm hne), upd_same]
  · rw [upd_ne hne] at hdx; exact hdx
  · refine k dx _ (fun b o _ hb => ?_) upd_same
    have h1 : b ≠ e := ne_of_none hb he
    have h2 : b ≠ dx := by
      refine ne_of_none hb ?_
      rw [upd_ne hne] at hdx; exact hdx
    rw [upd_ne h2, del_ne h1, upd_ne h2, upd_ne h1, upd_ne h2, upd_ne h1]
    exact hb
def toldOf : Tok → V
  | .name b => .str (tx b)
  | .num n => .int n
  | .sign n => .str ⟨#[n]⟩
  | .last => .str (Str.ofString "")
def TokAt (c : Cs) (H : Hp) (p : Addr) (n : Nat) (t : Tok) (e : Nat) : Prop := ∃ dx, H p = some (.ins c.cToken dx (tokF (.str (kindOf t)) (toldOf t) n e))
theorem made_tok {R : Addr → Hp → Prop} {H : Hp} {k t : V} {n e : Int} (q : ∀ p dx, H p = none → H dx = none → R p (upd (upd H dx (.own p)) p (.ins c.cToken dx (tokF k t n e)))) (E : XK) :
    ∀ x dx, H x = none → H dx = none → dx ≠ x → spTokInit c.cToken (.ref x :: ([k, t, V.int n, V.int e] ++ [])) (upd (upd H dx (.own x)) x (.ins c.cToken dx [])) (fun v F => v = .non ∧ R x F) E := by
  intro x dx hx hdx hne
  refine ⟨x, dx, k, t, n, e, rfl, upd_same, rfl, ?_⟩
  rw [upd_upd]
  exact q x dx hx hdx
theorem Ex.obj {H : Hp} {p dx : Addr} {o u : HO} (hp : H p = Option.none) (hd : H dx = Option.none) : Ex H (upd (upd H dx u) p o) := fun b ob hb => by
  rw [upd_ne (ne_of_none hb hp), upd_ne (ne_of_none hb hd)]; exact hb
theorem cut_tx {l : List UInt8} {n m : Nat} (h1 : n ≤ m) (h2 : m ≤ l.length) : cutS (tx l) (some (n : Int)) (some (m : Int)) = tx ((l.drop n).take (m - n)) := by
  unfold cutS
  rw [HT.sIx_nat, HT.sIx_nat, tx_len, Nat.min_eq_left h2, Nat.min_eq_left (Nat.le_trans h1 h2), tx_list]
  unfold tx
  rw [List.map_take, List.map_drop]
/-- a number -/
def spNumberAt (c : Cs) : Sp := fun vs H Q E => ∃ (l : List UInt8) (n : Nat) (b : UInt8) (r : List UInt8), vs = [.str (tx l), .int n] ∧ l.length ≤ 8192 ∧ l.drop n = b :: r ∧ isDigit b = true ∧
  (token (b :: r) = none → ErrOut c E [] ⟨2, n⟩ H) ∧ ∀ t k, token (b :: r) = some (t, k) → ∀ p H', Ex H H' → TokAt c H' p n t (n + k) → Q (.ref p) H'
theorem ok_number_at (T : Txt K mg c) : DefOk P w K mg base (L2.CX P w) 3 "number_at" ["signs", "place"] (spNumberAt c) := by
  obtain ⟨f_run_end, fd_run_end, g_run_end, k_run_end, b_run_end, F_run_end⟩ := ok_run_end (P := P) (w := w) (base := base) T
  obtain ⟨f_is_number, fd_is_number, g_is_number, k_is_number, b_is_number, F_is_number⟩ := ok_is_number (P := P) (w := w) (base := base) T
  obtain ⟨f_Token_init, fd_Token_init, m_Token_init, b_Token_init, F_Token_init⟩ := ok_Token_init (P := P) (w := w) (base := base) T
  obtain ⟨f_Fault, fd_Fault, fi_Fault, ft_Fault, b_Fault, F_Fault⟩ := ok_Fault_init (P := P) (w := w) (base := base) T
  refine DefOk.makeX T.d_number_at s_number_at (fun vs H Q E h => ?_) fun f cdv A outer s H vs Q E hr h => ?_
  · obtain ⟨l, n, b, r, rfl, hl, hd, hb, qe, q⟩ := h
    rfl
  · obtain ⟨l, n, b, r, rfl, hl, hd, hb, qe, q⟩ := h
    refine ⟨_, (pss_cons (ps_set (i := 2) s_number_at.nd rfl (Or.inl rfl) (pe_call F_run_end (hr.mono (by decide)) rfl g_run_end k_run_end b_run_end .nil pass0 (pa_cons (pv 0) (pa_cons (pv 1) (pa_cons (pe_glob rfl T.c_DIGITS.choose_spec.1 T.c_DIGITS.choose_spec.2) pa_nil)))))
      (pss_cons (ps_set (i := 3) s_number_at.nd rfl (Or.inl rfl) (pe_slice sl_str (pv 0) (po_some (pv 1)) (po_some (pv 2))))
      (pss_cons (ps_if (pt_not (pt_val (pe_call F_is_number (hr.mono (by decide)) rfl g_is_number k_is_number b_is_number .nil pass0 (pa_cons (pv 3) pa_nil))))
      (pss_one (ps_raise rfl (takes_of rfl rfl rfl rfl) (pmk_err T.k_Fault.1 fi_Fault ft_Fault F_Fault (hr.mono (by decide)) b_Fault pass0 rfl T.k_Fault.2.2.1 (pa_cons pe_int (pa_cons (pv 1) pa_nil)))))
      pss_nil)
      (pss_one (ps_ret (pe_make m_Token_init F_Token_init (hr.mono (by decide)) rfl T.g_Token b_Token_init .nil pass0 (pa_cons pe_str (pa_cons (pe_callTy call_int_str (by rfl) T.n_int (by decide +kernel) (pa_cons (pv 3) pa_nil)) (pa_cons (pv 1) (pa_cons (pv 2) pa_nil)))))))))), ?_⟩
    walk_at "rd"
    have hsz : sizeLine = 16777216 := rfl
    have hn : n < l.length := by
      have := congrArg List.length hd
      rw [List.length_drop, List.length_cons] at this
      omega
    refine ⟨tx l, Str.ofString "0123456789", n, rfl, by rw [tx_len]; omega, by rw [tx_size]; omega, ?_⟩
    have ed : (Str.ofString "0123456789").cps.toList = dCodes := by decide +kernel
    have hrun : run (Str.ofString "0123456789").cps.toList ((tx l).cps.toList.drop n) = ((b :: r).takeWhile isDigit).length := by
      unfold run
      rw [ed, tx_list, ← List.map_drop, hd, run_tw sgn_digit, List.length_map]
    rw [hrun]
    have hk : ((b :: r).takeWhile isDigit).length ≤ (b :: r).length := tw_len _
    have hlen : (b :: r).length = l.length - n := by rw [← hd, List.length_drop]
    have hpos := tw_pos (r := r) hb
    have hall : ∀ x ∈ (b :: r).takeWhile isDigit, isDigit x = true := fun x hx => mem_tw hx
    have htake : (l.drop n).take (n + ((b :: r).takeWhile isDigit).length - n) = (b :: r).takeWhile isDigit := by
      rw [hd, Nat.add_sub_cancel_left, tw_take]
    have hne : (b :: r).takeWhile isDigit ≠ [] := fun z => by rw [z] at hpos; simp at hpos
    have htok := token_digit (r := r) hb
    walk_at "rd"
    refine ⟨tx l, rfl, by rw [tx_len]; omega, ?_⟩
    rw [cut_tx (by omega) (by omega), htake]
    generalize hD : (b :: r).takeWhile isDigit = d at *
    walk_at "rd"
    refine ⟨d, rfl, hne, hall, by omega, ?_⟩
    walk_at "rd"
    cases hno : numberOf d with
    | none =>
      rw [hno] at htok
      refine L2.iteT ?_
      walk_at "rd"
      exact fault_done (n := 2) (m := n) (by decide) (by omega) (qe htok)
    | some v =>
      rw [hno] at htok
      refine L2.iteF ?_
      walk_at "rd"
      have hd10 : d.length ≤ 10 := by
        unfold numberOf at hno
        split at hno
        · cases hno
        · rename_i z
          exact Nat.le_of_not_lt fun y => z (Or.inr (Or.inl y))
      have hv : decimal d = v := by
        unfold numberOf at hno
        split at hno
        · cases hno
        · exact Option.some.inj hno
      refine ⟨tx d, _, rfl, int_digits hall hne (by omega), by rw [tx_len]; omega, ?_⟩
      walk_at "rd"
      refine made_tok (fun p dx hp hdx => ?_) _
      refine q (.num v) d.length htok p _ (Ex.obj hp hdx) ⟨dx, ?_⟩
      rw [upd_same, hv]
      rfl
/-- a name, or one of the four words -/
def spNameAt (c : Cs) : Sp := fun vs H Q E => ∃ (l : List UInt8) (n : Nat) (b : UInt8) (r : List UInt8), vs = [.str (tx l), .int n] ∧ l.length ≤ 8192 ∧ l.drop n = b :: r ∧ isLetter b = true ∧
  (token (b :: r) = none → ErrOut c E [] ⟨2, n⟩ H) ∧ ∀ t k, token (b :: r) = some (t, k) → ∀ p H', Ex H H' → TokAt c H' p n t (n + k) → Q (.ref p) H'
theorem tx_word {d : List UInt8} (h : ∀ x ∈ d, (isLetter x || isDigit x) = true) (e : List UInt8) (he : ∀ x ∈ e, (isLetter x || isDigit x) = true) : tx d = tx e ↔ d = e := by
  constructor
  · intro z
    have q : d.map sgn = e.map sgn := by rw [← tx_list, ← tx_list, z]
    have nat : ∀ {m : List UInt8}, (∀ x ∈ m, (isLetter x || isDigit x) = true) → m.map sgn = m.map UInt8.toNat := fun {m} hm => List.map_congr_left fun x hx => sgn_known (known_ld (hm x hx))
    rw [nat h, nat he] at q
    exact (List.map_inj_right fun x y => UInt8.toNat_inj.mp).mp q
  · intro z; rw [z]
theorem words_in {d : List UInt8} (h : ∀ x ∈ d, (isLetter x || isDigit x) = true) : inV (.str (tx d)) [.str (Str.ofString "columns"), .str (Str.ofString "row"), .str (Str.ofString "ask"), .str (Str.ofString "times")] = RESERVED.contains d := by
  have e1 : Str.ofString "columns" = tx (word "columns") := by decide +kernel
  have e2 : Str.ofString "row" = tx (word "row") := by decide +kernel
  have e3 : Str.ofString "ask" = tx (word "ask") := by decide +kernel
  have e4 : Str.ofString "times" = tx (word "times") := by decide +kernel
  have w : ∀ e, e ∈ RESERVED → ∀ x ∈ e, (isLetter x || isDigit x) = true := by decide +kernel
  have eq : ∀ e, e ∈ RESERVED → eqV (.str (tx e)) (.str (tx d)) = (d == e) := fun e he => by
    show decide (tx e = tx d) = (d == e)
    by_cases z : d = e
    · rw [z, decide_eq_true rfl]; simp
    · rw [decide_eq_false (fun y => z ((tx_word h e (w e he)).mp y.symm))]; simpa using z
  rw [e1, e2, e3, e4]
  unfold inV
  rw [List.any_cons, List.any_cons, List.any_cons, List.any_cons, List.any_nil, eq _ (by decide +kernel), eq _ (by decide +kernel), eq _ (by decide +kernel), eq _ (by decide +kernel)]
  show _ = List.contains [word "columns", word "row", word "ask", word "times"] d
  simp only [List.contains_cons, List.contains_nil]
theorem ok_name_at (T : Txt K mg c) : DefOk P w K mg base (L2.CX P w) 3 "name_at" ["signs", "place"] (spNameAt c) := by
  obtain ⟨f_run_end, fd_run_end, g_run_end, k_run_end, b_run_end, F_run_end⟩ := ok_run_end (P := P) (w := w) (base := base) T
  obtain ⟨f_Token_init, fd_Token_init, m_Token_init, b_Token_init, F_Token_init⟩ := ok_Token_init (P := P) (w := w) (base := base) T
  obtain ⟨f_Fault, fd_Fault, fi_Fault, ft_Fault, b_Fault, F_Fault⟩ := ok_Fault_init (P := P) (w := w) (base := base) T
  refine DefOk.makeX T.d_name_at s_name_at (fun vs H Q E h => ?_) fun f cdv A outer s H vs Q E hr h => ?_
  · obtain ⟨l, n, b, r, rfl, hl, hd, hb, qe, q⟩ := h
    rfl
  · obtain ⟨l, n, b, r, rfl, hl, hd, hb, qe, q⟩ := h
    refine ⟨_, (pss_cons (ps_set (i := 2) s_name_at.nd rfl (Or.inl rfl) (pe_call F_run_end (hr.mono (by decide)) rfl g_run_end k_run_end b_run_end .nil pass0 (pa_cons (pv 0) (pa_cons (pv 1) (pa_cons (pe_op op_add_str (pe_glob rfl T.c_LETTERS.choose_spec.1 T.c_LETTERS.choose_spec.2) (pe_glob rfl T.c_DIGITS.choose_spec.1 T.c_DIGITS.choose_spec.2)) pa_nil)))))
      (pss_cons (ps_if (pt_cmpR op_gt (pe_op op_sub (pv 2) (pv 1)) (pe_glob rfl T.c_MOST_NAME_BYTES.choose_spec.1 T.c_MOST_NAME_BYTES.choose_spec.2) (nomark _))
      (pss_one (ps_raise rfl (takes_of rfl rfl rfl rfl) (pmk_err T.k_Fault.1 fi_Fault ft_Fault F_Fault (hr.mono (by decide)) b_Fault pass0 rfl T.k_Fault.2.2.1 (pa_cons pe_int (pa_cons (pv 1) pa_nil)))))
      pss_nil)
      (pss_cons (ps_set (i := 3) s_name_at.nd rfl (Or.inl rfl) (pe_slice sl_str (pv 0) (po_some (pv 1)) (po_some (pv 2))))
      (pss_cons (ps_set (i := 4) s_name_at.nd rfl (Or.inl rfl) (pe_ifExp (pt_cmpR op_in_seq (pv 3) (pe_glob (v := .ref T.c_WORDS.choose) rfl T.c_WORDS.choose_spec.1 rfl) (by rfl)) (pv 3) pe_str))
      (pss_one (ps_ret (pe_make m_Token_init F_Token_init (hr.mono (by decide)) rfl T.g_Token b_Token_init .nil pass0 (pa_cons (pv 4) (pa_cons (pv 3) (pa_cons (pv 1) (pa_cons (pv 2) pa_nil))))))))))), ?_⟩
    walk_at "rd"
    have hsz : sizeLine = 16777216 := rfl
    have hn : n < l.length := by
      have := congrArg List.length hd
      rw [List.length_drop, List.length_cons] at this
      omega
    refine ⟨_, _, rfl, rfl, by decide, ?_⟩
    walk_at "rd"
    refine ⟨tx l, _, n, rfl, by rw [tx_len]; omega, by rw [tx_size]; omega, ?_⟩
    have ed : (Str.ofString "ABCDEFGHIJKLMNOPQRSTUVWXYZabcdefghijklmnopqrstuvwxyz" ++ Str.ofString "0123456789").cps.toList = lCodes ++ dCodes := by decide +kernel
    have hrun : run (Str.ofString "ABCDEFGHIJKLMNOPQRSTUVWXYZabcdefghijklmnopqrstuvwxyz" ++ Str.ofString "0123456789").cps.toList ((tx l).cps.toList.drop n) = ((b :: r).takeWhile fun c => isLetter c || isDigit c).length := by
      unfold run
      rw [ed, tx_list, ← List.map_drop, hd, run_tw sgn_ld, List.length_map]
    rw [hrun]
    have hk : ((b :: r).takeWhile fun c => isLetter c || isDigit c).length ≤ (b :: r).length := tw_len _
    have hlen : (b :: r).length = l.length - n := by rw [← hd, List.length_drop]
    have hall : ∀ x ∈ (b :: r).takeWhile fun c => isLetter c || isDigit c, (isLetter x || isDigit x) = true := fun x hx => mem_tw (f := fun c => isLetter c || isDigit c) hx
    have htake : (l.drop n).take (n + ((b :: r).takeWhile fun c => isLetter c || isDigit c).length - n) = (b :: r).takeWhile fun c => isLetter c || isDigit c := by
      rw [hd, Nat.add_sub_cancel_left, tw_take]
    have htok := token_letter (r := r) hb
    generalize hD : (b :: r).takeWhile (fun c => isLetter c || isDigit c) = d at *
    walk_at "rd"
    refine rd_ite (fun h16 => ?_) (fun h16 => ?_)
    · rw [if_pos (by omega)] at htok
      walk_at "rd"
      exact fault_done (n := 2) (m := n) (by decide) (by omega) (qe htok)
    · rw [if_neg (by omega)] at htok
      walk_at "rd"
      refine ⟨tx l, rfl, by rw [tx_len]; omega, ?_⟩
      rw [cut_tx (by omega) (by omega), htake]
      walk_at "rd"
      refine ⟨_, _, rfl, Or.inr (T.c_WORDS.choose_spec.2 H), rfl, rfl, ?_⟩
      rw [if_neg (by decide), words_in hall]
      have kind : kindOf (.name d) = if RESERVED.contains d = true then tx d else Str.ofString "name" := rfl
      walk_at "rd"
      refine rd_iteB (fun hr => ?_) (fun hr => ?_)
      · walk_at "rd"
        refine made_tok (fun p dx hp hdx => ?_) _
        refine q (.name d) d.length htok p _ (Ex.obj hp hdx) ⟨dx, ?_⟩
        rw [upd_same, kind, if_pos hr]
        rfl
      · walk_at "rd"
        refine made_tok (fun p dx hp hdx => ?_) _
        refine q (.name d) d.length htok p _ (Ex.obj hp hdx) ⟨dx, ?_⟩
        rw [upd_same, kind, if_neg (by rw [hr]; decide)]
        rfl
/-- the token at a place -/
def spTokenAt (c : Cs) : Sp := fun vs H Q E => ∃ (l : List UInt8) (n : Nat) (b : UInt8) (r : List UInt8), vs = [.str (tx l), .int n] ∧ l.length ≤ 8192 ∧ l.drop n = b :: r ∧
  (token (b :: r) = none → ErrOut c E [] ⟨2, n⟩ H) ∧ ∀ t k, token (b :: r) = some (t, k) → ∀ p H', Ex H H' → TokAt c H' p n t (n + k) → Q (.ref p) H'
theorem ok_token_at (T : Txt K mg c) : DefOk P w K mg base (L2.CX P w) 4 "token_at" ["signs", "place"] (spTokenAt c) := by
  obtain ⟨f_Token_init, fd_Token_init, m_Token_init, b_Token_init, F_Token_init⟩ := ok_Token_init (P := P) (w := w) (base := base) T
  obtain ⟨f_number_at, fd_number_at, g_number_at, k_number_at, b_number_at, F_number_at⟩ := ok_number_at (P := P) (w := w) (base := base) T
  obtain ⟨f_name_at, fd_name_at, g_name_at, k_name_at, b_name_at, F_name_at⟩ := ok_name_at (P := P) (w := w) (base := base) T
  obtain ⟨f_Fault, fd_Fault, fi_Fault, ft_Fault, b_Fault, F_Fault⟩ := ok_Fault_init (P := P) (w := w) (base := base) T
  refine DefOk.makeX T.d_token_at s_token_at (fun vs H Q E h => ?_) fun f cdv A outer s H vs Q E hr h => ?_
  · obtain ⟨l, n, b, r, rfl, hl, hd, qe, q⟩ := h
    rfl
  · obtain ⟨l, n, b, r, rfl, hl, hd, qe, q⟩ := h
    refine ⟨_, (pss_cons (ps_set (i := 2) s_token_at.nd rfl (Or.inl rfl) (pe_ix ix_str (pv 0) (pv 1) (fun _ _ => rfl)))
      (pss_cons (ps_if (pt_cmpR op_in_sign (pv 2) (pe_glob rfl T.c_SIGNS.choose_spec.1 T.c_SIGNS.choose_spec.2) (by rfl))
      (pss_one (ps_ret (pe_make m_Token_init F_Token_init (hr.mono (by decide)) rfl T.g_Token b_Token_init .nil pass0 (pa_cons (pv 2) (pa_cons (pv 2) (pa_cons (pv 1) (pa_cons (pe_op op_add (pv 1) pe_int) pa_nil)))))))
      pss_nil)
      (pss_cons (ps_if (pt_cmpR op_in_sign (pv 2) (pe_glob rfl T.c_DIGITS.choose_spec.1 T.c_DIGITS.choose_spec.2) (by rfl))
      (pss_one (ps_ret (pe_call F_number_at (hr.mono (by decide)) rfl g_number_at k_number_at b_number_at .nil (passes_call (takes_of rfl rfl rfl rfl) (fun _ _ _ _ h => h)) (pa_cons (pv 0) (pa_cons (pv 1) pa_nil)))))
      pss_nil)
      (pss_cons (ps_if (pt_cmpR op_in_sign (pv 2) (pe_glob rfl T.c_LETTERS.choose_spec.1 T.c_LETTERS.choose_spec.2) (by rfl))
      (pss_one (ps_ret (pe_call F_name_at (hr.mono (by decide)) rfl g_name_at k_name_at b_name_at .nil (passes_call (takes_of rfl rfl rfl rfl) (fun _ _ _ _ h => h)) (pa_cons (pv 0) (pa_cons (pv 1) pa_nil)))))
      pss_nil)
      (pss_one (ps_raise rfl (takes_of rfl rfl rfl rfl) (pmk_err T.k_Fault.1 fi_Fault ft_Fault F_Fault (hr.mono (by decide)) b_Fault pass0 rfl T.k_Fault.2.2.1 (pa_cons pe_int (pa_cons (pv 1) pa_nil))))))))), ?_⟩
    walk_at "rd"
    have hsz : sizeLine = 16777216 := rfl
    have hn : n < l.length := by
      have := congrArg List.length hd
      rw [List.length_drop, List.length_cons] at this
      omega
    have hb0 : l[n] = b := by
      have := drop_cons hn
      rw [hd] at this
      exact (List.cons.inj this).1.symm
    have es : (Str.ofString ",:;-").cps.toList = [44, 58, 59, 45] := by decide +kernel
    have ed : (Str.ofString "0123456789").cps.toList = dCodes := by decide +kernel
    have el : (Str.ofString "ABCDEFGHIJKLMNOPQRSTUVWXYZabcdefghijklmnopqrstuvwxyz").cps.toList = lCodes := by decide +kernel
    refine ⟨tx l, n, sgn l[n], rfl, rfl, by rw [tx_len]; omega, tx_at hn, ?_⟩
    rw [hb0]
    walk_at "rd"
    refine ⟨_, _, rfl, rfl, ?_⟩
    rw [es, sgn_sign]
    walk_at "rd"
    refine rd_iteB (fun h => ?_) (fun h => ?_)
    · walk_at "rd"
      refine made_tok (fun p dx hp hdx => ?_) _
      refine q (.sign b.toNat) 1 (token_sign h) p _ (Ex.obj hp hdx) ⟨dx, ?_⟩
      rw [upd_same, sign_known h]
      rfl
    walk_at "rd"
    refine ⟨_, _, rfl, rfl, ?_⟩
    rw [ed, sgn_digit]
    walk_at "rd"
    refine rd_iteB (fun h2 => ?_) (fun h2 => ?_)
    · walk_at "rd"
      exact ⟨l, n, b, r, rfl, hl, hd, h2, qe, q⟩
    walk_at "rd"
    refine ⟨_, _, rfl, rfl, ?_⟩
    rw [el, sgn_letter]
    walk_at "rd"
    refine rd_iteB (fun h3 => ?_) (fun h3 => ?_)
    · walk_at "rd"
      exact ⟨l, n, b, r, rfl, hl, hd, h3, qe, q⟩
    walk_at "rd"
    exact fault_done (n := 2) (m := n) (by decide) (by omega) (qe (token_none h3 h2 h))
/-- the addresses of tokens' objects -/
inductive Toks' (c : Cs) (H : Hp) : List V → Toks → Prop where
  | nil : Toks' c H [] []
  | cons {p : Addr} {n : Nat} {t : Tok} {e : Nat} {vs : List V} {ts : Toks} (h : TokAt c H p n t e) (hr : Toks' c H vs ts) : Toks' c H (.ref p :: vs) (⟨n, t⟩ :: ts)
theorem TokAt.ex {H H' : Hp} {p : Addr} {n : Nat} {t : Tok} {e : Nat} (k : Ex H H') (h : TokAt c H p n t e) : TokAt c H' p n t e := by
  obtain ⟨dx, h⟩ := h
  exact ⟨dx, k _ _ h⟩
theorem Toks'.ex {H H' : Hp} (k : Ex H H') {vs : List V} {ts : Toks} (h : Toks' c H vs ts) : Toks' c H' vs ts := by
  induction h with
  | nil => exact .nil
  | cons h _ ih => exact .cons (h.ex k) ih
theorem Toks'.snoc {H : Hp} {vs : List V} {ts : Toks} (h : Toks' c H vs ts) {p : Addr} {n : Nat} {t : Tok} {e : Nat} (hp : TokAt c H p n t e) : Toks' c H (vs ++ [.ref p]) (ts ++ [⟨n, t⟩]) := by
  induction h with
  | nil => exact .cons hp .nil
  | cons h _ ih => exact .cons h ih
theorem Toks'.len {H : Hp} {vs : List V} {ts : Toks} (h : Toks' c H vs ts) : vs.length = ts.length := by
  induction h with
  | nil => rfl
  | cons _ _ ih => rw [List.length_cons, List.length_cons, ih]
theorem Toks'.upd_list {H : Hp} {p : Addr} {us ws : List V} (h : H p = some (.lst us)) {vs : List V} {ts : Toks} (t : Toks' c H vs ts) : Toks' c (upd H p (.lst ws)) vs ts := by
  induction t with
  | nil => exact .nil
  | cons h1 _ ih =>
    obtain ⟨dx, h1⟩ := h1
    exact .cons ⟨dx, by rw [upd_ne (ne_of h1 h (by intro z; cases z))]; exact h1⟩ ih
/-- all tokens -/
def spTokensOf (K : PySem.W.Frag) (c : Cs) : Sp := fun vs H Q E => ∃ (a : Addr) (l : List UInt8), vs = [.ref a] ∧ SqL K H a (l.map bv) ∧ l.length ≤ 8192 ∧
  (∀ f, lexF 0 l = .error f → ErrOut c E [] f H) ∧ ∀ ts, lexF 0 l = .ok ts → ∀ p us H', Ex H H' → H' p = some (.lst us) → H p = none → Toks' c H' us ts → us.length ≤ 8193 → Q (.ref p) H'
theorem ok_tokens_of (T : Txt K mg c) : DefOk P w K mg base (L2.CX P w) 5 "tokens_of" ["text"] (spTokensOf K c) := by
  obtain ⟨f_as_signs, fd_as_signs, g_as_signs, k_as_signs, b_as_signs, F_as_signs⟩ := ok_as_signs (P := P) (w := w) (base := base) T
  obtain ⟨f_past_blanks, fd_past_blanks, g_past_blanks, k_past_blanks, b_past_blanks, F_past_blanks⟩ := ok_past_blanks (P := P) (w := w) (base := base) T
  obtain ⟨f_token_at, fd_token_at, g_token_at, k_token_at, b_token_at, F_token_at⟩ := ok_token_at (P := P) (w := w) (base := base) T
  obtain ⟨f_Token_init, fd_Token_init, m_Token_init, b_Token_init, F_Token_init⟩ := ok_Token_init (P := P) (w := w) (base := base) T
  refine DefOk.makeX T.d_tokens_of s_tokens_of (fun vs H Q E h => ?_) fun f cdv A outer s H vs Q E hr h => ?_
  · obtain ⟨a, l, rfl, hs, hl, qe, q⟩ := h
    rfl
  · obtain ⟨a, l, rfl, hs, hl, qe, q⟩ := h
    refine ⟨_, (pss_cons (ps_set (i := 1) s_tokens_of.nd rfl (Or.inl rfl) (pe_call F_as_signs (hr.mono (by decide)) rfl g_as_signs k_as_signs b_as_signs .nil pass0 (pa_cons (pv 0) pa_nil)))
      (pss_cons (ps_set (i := 2) s_tokens_of.nd rfl (Or.inl rfl) (pe_lst pa_nil))
      (pss_cons (ps_set (i := 3) s_tokens_of.nd rfl (Or.inl rfl) (pe_call F_past_blanks (hr.mono (by decide)) rfl g_past_blanks k_past_blanks b_past_blanks .nil pass0 (pa_cons (pv 1) (pa_cons pe_int pa_nil))))
      (pss_cons (ps_while (passes_of rfl) (pt_cmpR op_lt (pv 3) (pe_callB call_len_str (by rfl) T.n_len (by decide +kernel) (pa_cons (pv 1) pa_nil)) (nomark _))
      (pss_cons (ps_set (i := 4) s_tokens_of.nd rfl (Or.inl rfl) (pe_call F_token_at (hr.mono (by decide)) rfl g_token_at k_token_at b_token_at .nil (passes_call (takes_of rfl rfl rfl rfl) (fun _ _ _ _ h => h)) (pa_cons (pv 1) (pa_cons (pv 3) pa_nil))))
      (pss_cons (ps_expr (pe_bm PySem.F.plainAttrs_list PySem.F.slot_list_append PySem.F.type_list_append mt_append (pv 2) (pa_cons (pv 4) pa_nil)))
      (pss_one (ps_set (i := 3) s_tokens_of.nd rfl (Or.inl rfl) (pe_call F_past_blanks (hr.mono (by decide)) rfl g_past_blanks k_past_blanks b_past_blanks .nil pass0 (pa_cons (pv 1) (pa_cons (pe_fld (pv 4) rfl) pa_nil))))))))
      (pss_cons (ps_expr (pe_bm PySem.F.plainAttrs_list PySem.F.slot_list_append PySem.F.type_list_append mt_append (pv 2) (pa_cons (pe_make m_Token_init F_Token_init (hr.mono (by decide)) rfl T.g_Token b_Token_init .nil pass0 (pa_cons pe_str (pa_cons pe_str (pa_cons (pv 3) (pa_cons (pv 3) pa_nil))))) pa_nil)))
      (pss_one (ps_ret (pv 2)))))))), ?_⟩
    walk_at "rd"
    have hsz : sizeLine = 16777216 := rfl
    refine ⟨a, l, rfl, hs, by omega, fun H1 k1 => ?_⟩
    walk_at "rd"
    refine ⟨Nat.zero_le _, fun p hp => ?_⟩
    have hpH : H p = none := Ex.none k1 hp
    walk_at "rd"
    refine ⟨l, 0, rfl, by omega, Nat.zero_le _, fun m _ hm he hc => ?_⟩
    rw [List.drop_zero] at he
    walk_at "rd"
    refine ⟨fun μ σ H' => ∃ (k : Nat) (us : List V) (ts : Toks) (x : Option V), σ = [some (.ref a), some (.str (tx l)), some (.ref p), some (.int (k : Nat)), x] ∧ Ex H H' ∧ H' p = some (.lst us) ∧ Toks' c H' us ts ∧ us.length ≤ k ∧ k ≤ l.length ∧
      μ = l.length - k ∧ Clear (l.drop k) ∧ lexF 0 l = (lexF k (l.drop k)).map (ts ++ ·), ⟨_, m, [], [], none, rfl, Ex.mut k1 hpH, upd_same, .nil, Nat.zero_le _, hm, rfl, hc, ?_⟩, ?_⟩
    · rw [he]
      cases lexF m (l.drop m) <;> rfl
    rintro μ σ H' ⟨k, us, ts, x, rfl, kH, hpl, htk, hus, hk, rfl, hc, hx⟩
    walk_at "rd"
    refine ⟨tx l, rfl, by rw [tx_len]; omega, ?_⟩
    rw [tx_len]
    walk_at "rd"
    refine rd_ite (fun hlt => ?_) (fun hge => ?_)
    · have hlt : k < l.length := by omega
      have hd := drop_cons hlt
      have hb : isBlank l[k] = false ∧ l[k] ≠ 35 := by
        rcases hc with hc | ⟨b, r, e, h1, h2⟩
        · rw [hd] at hc; cases hc
        · rw [hd] at e
          obtain ⟨rfl, _⟩ := List.cons.inj e
          exact ⟨h1, h2⟩
      have hl1 := lexF_tok (a := k) (r := l.drop (k + 1)) hb.1 hb.2
      rw [hd, hl1] at hx
      refine ⟨_, fun _ _ h => h, ?_⟩
      walk_at "rd"
      refine ⟨l, k, l[k], l.drop (k + 1), rfl, hl, hd, fun hn => ?_, fun t j ht p2 H2 k2 hp2 => ?_⟩
      · rw [hn] at hx
        exact (qe _ hx).mono (fun _ z => z) (fun b o _ h => kH b o h)
      · rw [ht] at hx
        have hj := (token_ok ht).2
        rw [List.length_cons, List.length_drop] at hj
        walk_at "rd"
        have hpl2 : H2 p = some (.lst us) := k2 _ _ hpl
        refine ⟨Or.inl ⟨rfl, _, SqL.of hpl2⟩, ?_⟩
        walk_at "rd"
        refine ⟨p, us, .ref p2, rfl, rfl, hpl2, by omega, ?_⟩
        walk_at "rd"
        obtain ⟨dx2, hp2'⟩ := id hp2
        have ne2 : p2 ≠ p := ne_of hp2' hpl2 (by intro z; cases z)
        refine rd_fldAt ((upd_ne ne2).trans hp2') T.k_Token T.a_Token_behind rfl ?_
        walk_at "rd"
        refine ⟨l, k + j, rfl, by omega, by omega, fun m2 h1 h2 h3 h4 => ?_⟩
        walk_at "rd"
        refine ⟨l.length - m2, by omega, m2, us ++ [.ref p2], ts ++ [⟨k, t⟩], _, rfl, Ex.mut (fun b o h => k2 b o (kH b o h)) hpH, upd_same, ?_, ?_, h2, rfl, h4, ?_⟩
        · refine Toks'.upd_list hpl2 ((htk.ex k2).snoc hp2)
        · rw [List.length_append]; show us.length + 1 ≤ m2; omega
        · rw [hx]
          show ((lexF (k + j) ((l[k] :: l.drop (k + 1)).drop j)).map fun l => ⟨k, t⟩ :: l).map (ts ++ ·) = _
          rw [← hd, List.drop_drop, h3]
          cases lexF m2 (l.drop m2) with
          | error e => rfl
          | ok v => show Except.ok (ts ++ (⟨k, t⟩ :: v)) = Except.ok (ts ++ [⟨k, t⟩] ++ v); rw [List.append_assoc]; rfl
    · have hk2 : k = l.length := by omega
      walk_at "rd"
      refine ⟨Or.inl ⟨rfl, _, SqL.of hpl⟩, ?_⟩
      walk_at "rd"
      refine made_tok (fun p2 dx2 hp2 hdx2 => ?_) _
      have kE : Ex H' (upd (upd H' dx2 (.own p2)) p2 (.ins c.cToken dx2 (tokF (.str (Str.ofString "end")) (.str (Str.ofString "")) k k))) := Ex.obj hp2 hdx2
      refine ⟨p, us, .ref p2, rfl, rfl, kE _ _ hpl, by omega, ?_⟩
      walk_at "rd"
      have hd0 : l.drop k = [] := by rw [hk2]; exact List.drop_eq_nil_of_le (Nat.le_refl _)
      rw [hd0, lexF_nil] at hx
      refine q (ts ++ [(⟨k, Tok.last⟩ : PTok)]) hx p (us ++ [.ref p2]) _ (Ex.mut (fun b o h => kE b o (kH b o h)) hpH) upd_same hpH ?_ ?_
      · refine Toks'.upd_list (kE _ _ hpl) ((htk.ex kE).snoc (e := k) ⟨dx2, ?_⟩)
        rw [upd_same]; rfl
      · rw [List.length_append]; show us.length + 1 ≤ 8193; omega
end
end Bk
end
section
local macro_rules | `(tactic| walk_at "rd1") => `(tactic| first
  | with_reducible refine Bk.rd_seq ?_
  | ((with_reducible refine' Bk.rd_var ?k1 ?_); (case k1 => exact rfl))
  | with_reducible refine Bk.rd_c ?_
  | with_reducible refine Bk.rd_op ?_
  | with_reducible refine Bk.rd_I0 ?_
  | ((with_reducible refine' Bk.rd_I ?k1 ?_); (case k1 => first | assumption | omega))
  | with_reducible refine Bk.rd_test ?_
  | with_reducible refine Bk.rd_tB ?_
  | with_reducible refine Bk.rd_bl ?_
  | ((with_reducible refine' Bk.rd_eq ?k1 ?_); (case k1 => exact rfl))
  | ((with_reducible refine' Bk.rd_ne ?k1 ?_); (case k1 => exact rfl))
  | with_reducible refine Bk.rd_and ?_
  | with_reducible refine Bk.rd_or ?_
  | with_reducible refine Bk.rd_not ?_
  | with_reducible refine Bk.rd_andV ?_
  | with_reducible refine Bk.rd_isN ?_
  | with_reducible refine Bk.rd_notN ?_
  | with_reducible refine Bk.rd_asg ?_
  | with_reducible refine Bk.rd_nm ?_
  | with_reducible refine Bk.rd_ret ?_
  | with_reducible refine Bk.rd_drop ?_
  | with_reducible refine Bk.rd_if ?_
  | with_reducible refine Bk.rd_ifE ?_
  | ((with_reducible refine' Bk.rd_aug ?k1 ?_); (case k1 => exact rfl))
  | with_reducible refine Bk.rd_ipI ?_
  | with_reducible refine Bk.rd_nil ?_
  | with_reducible refine Bk.rd_cons ?_
  | with_reducible refine Bk.rd_CB ?_
  | with_reducible refine Bk.rd_call ?_
  | with_reducible refine Bk.rd_callS ?_
  | with_reducible refine Bk.rd_un ?_
  | with_reducible refine Bk.rd_U ?_
  | with_reducible refine Bk.rd_fld ?_
  | with_reducible refine Bk.rd_sfld ?_
  | with_reducible refine Bk.rd_tup ?_
  | with_reducible refine Bk.rd_lst ?_
  | with_reducible refine Bk.rd_next ?_
  | with_reducible refine Bk.rd_brk ?_
  | with_reducible refine Bk.rd_BM ?_
  | with_reducible refine Bk.rd_BM0 ?_
  | with_reducible refine Bk.rd_for ?_
  | with_reducible refine Bk.rd_iStr ?_
  | with_reducible refine Bk.rd_fldaug ?_
  | with_reducible refine Bk.rd_mkO ?_
  | with_reducible refine Bk.rd_js ?_
  | with_reducible refine Bk.rd_js0 ?_
  | with_reducible refine Bk.rd_fmt ?_
  | with_reducible refine Bk.rd_erI ?_
  | with_reducible refine Bk.rd_erSet ?_
  | with_reducible refine Bk.rd_lc ?_
  | with_reducible refine Bk.rd_yes' ?_
  | with_reducible refine Bk.rd_iList ?_
  | with_reducible refine Bk.rd_iTup ?_
  | with_reducible refine Bk.rd_iRng1 ?_
  | with_reducible refine Bk.rd_iEnum ?_
  | with_reducible refine Bk.rd_iZip ?_
  | with_reducible refine Bk.rd_iEnumT ?_
  | with_reducible refine Bk.rd_M1 ?_
  | with_reducible refine Bk.rd_dget2 ?_
  | with_reducible refine Bk.rd_dput ?_
  | with_reducible refine Bk.rd_sl ?_
  | with_reducible refine Bk.rd_noPart ?_
  | with_reducible refine Bk.rd_part ?_
  | with_reducible refine Bk.rd_int ?_
  | with_reducible refine Bk.rd_str ?_
  | with_reducible refine Bk.rd_isstr ?_
  | with_reducible refine Bk.rd_make ?_
  | with_reducible refine Bk.rd_meth ?_
  | with_reducible refine L2.iteT ?_
  | with_reducible refine L2.iteF ?_)
local macro_rules | `(tactic| walk_at "rd") => `(tactic| repeat (walk_at "rd1"))
local macro_rules | `(tactic| walk_at "few") => `(tactic| first | exact (show (0 : Nat) < 1000 by decide) | exact (show (1 : Nat) < 1000 by decide) | exact (show (2 : Nat) < 1000 by decide) | exact (show (3 : Nat) < 1000 by decide) | exact (show (4 : Nat) < 1000 by decide) | exact (show (5 : Nat) < 1000 by decide) | exact (show (6 : Nat) < 1000 by decide) | exact (show (7 : Nat) < 1000 by decide))

/-! tables read: the defs of tables.py -/
namespace Bk
open PySem hiding Tok
open PySem.Spec hiding Row
open PyProof.Rows L2
open VamvsBase (isBlank isDigit isLetter token lex Tok PTok Toks numberOf decimal SIGNS RESERVED word tokEq NAME NUMBER next nextWord taken takeWord takeSign takeName wrong here PName)
open Vamvsa (takeColumns takeNat takeValues takeInt takeAsked takeTimes takeAsk takeLines Table Row Ask COLUMNS ROWS ASKS VALUE SIZE TIMES)
section
variable {P : Program} {w : World} {K : PySem.W.Frag} {mg : Str → Option Value} {base : Heap} {c : Cs}
abbrev But (S : List Addr) (H H' : Hp) : Prop := ∀ b o, b ∉ S → H b = some o → H' b = some o
theorem But.refl {S : List Addr} (H : Hp) : But S H H := fun _ _ _ h => h
theorem But.trans {S : List Addr} {H H1 H2 : Hp} (a : But S H H1) (b : But S H1 H2) : But S H H2 := fun x o n h => b x o n (a x o n h)
theorem But.mono {S S' : List Addr} {H H' : Hp} (a : But S H H') (h : ∀ x, x ∈ S → x ∈ S') : But S' H H' := fun x o n e => a x o (fun z => n (h x z)) e
theorem But.upd {S : List Addr} {H : Hp} {a : Addr} {o : HO} (h : a ∈ S) : But S H (upd H a o) := fun x u n e => by
  rw [upd_ne (fun z => n (by rw [z]; exact h))]; exact e
theorem ErrOut.up {E : XK} {S S' : List Addr} {f : VamvsBase.Fault} {H H1 : Hp} (e : ErrOut c E S f H) (k : ∀ b o, b ∉ S → H b = some o → b ∉ S' ∧ H1 b = some o) : ErrOut c E S' f H1 :=
  fun d F kF hd => e d F (fun b o hb h => let ⟨q1, q2⟩ := k b o hb h; kF b o q1 q2) hd
theorem ErrOut.on {E : XK} {S : List Addr} {f : VamvsBase.Fault} {H H1 : Hp} (e : ErrOut c E S f H) (k : But S H H1) : ErrOut c E S f H1 := e.up fun b o n h => ⟨n, k b o n h⟩
/-! the reader -/
def rdrF (a : Addr) (i : Nat) : List (Str × V) := [("tokens", .ref a), ("at", .int i)]
def RdrAt (c : Cs) (H : Hp) (r a : Addr) (l : Toks) : Prop := ∃ (dx : Addr) (us : List V) (ts : Toks) (i : Nat), H r = some (.ins c.cReader dx (rdrF a i)) ∧ H a = some (.lst us) ∧ Toks' c H us ts ∧ l = ts.drop i ∧ TL l ∧ ∀ x ∈ l, x.place ≤ 100000
theorem Toks'.get {H : Hp} {us : List V} {ts : Toks} (h : Toks' c H us ts) : ∀ {i n : Nat} {t : Tok} {l : Toks}, ts.drop i = ⟨n, t⟩ :: l → ∃ p e, us[i]? = some (.ref p) ∧ TokAt c H p n t e := by
  induction h with
  | nil => intro i n t l h; simp at h
  | @cons p n' t' e' vs ts hp _ ih =>
    intro i n t l h
    cases i with
    | zero =>
      rw [List.drop_zero] at h
      injection h with h _
      injection h with h1 h2
      subst h1 h2
      exact ⟨p, e', rfl, hp⟩
    | succ i => exact ih (i := i) h
theorem Toks'.stay {S : List Addr} {H H' : Hp} (k : But S H H') (hS : ∀ x dx fs, x ∈ S → H x ≠ some (.ins c.cToken dx (fs : List (Str × V))) ∨ fs.length ≠ 4) {us : List V} {ts : Toks} (h : Toks' c H us ts) : Toks' c H' us ts := by
  induction h with
  | nil => exact .nil
  | cons h _ ih =>
    obtain ⟨dx, h⟩ := h
    refine .cons ⟨dx, k _ _ (fun z => ?_) h⟩ ih
    rcases hS _ dx (tokF _ _ _ _) z with q | q
    · exact q h
    · exact q rfl
theorem RdrAt.stay {S : List Addr} {H H' : Hp} {r a : Addr} {l : Toks} (h : RdrAt c H r a l) (k : But S H H') (hr : r ∉ S) (ha : a ∉ S) (hS : ∀ x ∈ S, ∀ dx fs, H x ≠ some (.ins c.cToken dx fs)) : RdrAt c H' r a l := by
  obtain ⟨dx, us, ts, i, h1, h2, h3, h4⟩ := h
  exact ⟨dx, us, ts, i, k _ _ hr h1, k _ _ ha h2, h3.stay k fun x dx fs hx => .inl (hS x hx dx fs), h4⟩
theorem TL.tail {n : Nat} {t : Tok} {l : Toks} (h : TL (⟨n, t⟩ :: l)) (ht : t ≠ .last) : TL l := by
  cases h with
  | last => exact absurd rfl ht
  | cons _ hr => exact hr
theorem RdrAt.head {H : Hp} {r a : Addr} {l : Toks} (h : RdrAt c H r a l) : ∃ n t l', l = ⟨n, t⟩ :: l' ∧ n ≤ 100000 ∧ TL l := by
  obtain ⟨dx, us, ts, i, h1, h2, h3, h4, h5, h6⟩ := h
  cases l with
  | nil => exact absurd rfl h5.ne
  | cons x l' => exact ⟨x.place, x.tok, l', rfl, h6 x (by simp), h5⟩
/-- whether the next token is of this kind -/
def spSees (c : Cs) : Sp := fun vs H Q _ => ∃ (r a : Addr) (n : Nat) (t : Tok) (l : Toks) (k : Str), vs = [.ref r, .str k] ∧ RdrAt c H r a (⟨n, t⟩ :: l) ∧ Q (.bl (decide (kindOf t = k))) H
theorem dec_str {x y : Str} : decide (V.str x = V.str y) = decide (x = y) := by
  by_cases h : x = y
  · rw [h]; simp
  · rw [decide_eq_false h, decide_eq_false fun z => h (V.str.inj z)]
theorem ok_Reader_sees (T : Txt K mg c) : MethOk P w K mg base CX0 1 c.cReader "sees" ["self", "kind"] (spSees c) := by
  refine MethOk.make T.m_Reader_sees s_Reader_sees (fun vs H Q E h => ?_) fun f cdv A outer s H vs Q E hr h => ?_
  · obtain ⟨r, a, n, t, l, k, rfl, hR, q⟩ := h
    rfl
  · obtain ⟨r, a, n, t, l, k, rfl, hR, q⟩ := h
    refine ⟨_, (pss_one (ps_ret (pe_cmpR op_eq (pe_fld (pe_ix ix_list (pe_fld (pv 0) rfl) (pe_fld (pv 0) rfl) (fun _ _ => rfl)) rfl) (pv 1) (nomark _)))), ?_⟩
    walk_at "rd"
    obtain ⟨dx, us, ts, i, h1, h2, h3, h4, h5, h6⟩ := hR
    obtain ⟨p, e, hu, dxp, hp⟩ := h3.get h4.symm
    refine rd_fldAt h1 T.k_Reader T.a_Reader_tokens rfl ?_
    walk_at "rd"
    refine rd_fldAt h1 T.k_Reader T.a_Reader_at rfl ?_
    refine ⟨a, us, i, .ref p, rfl, rfl, SqL.of h2, atI_nat hu, ?_⟩
    refine rd_fldAt hp T.k_Token T.a_Token_kind rfl ?_
    walk_at "rd"
    rw [dec_str]
    exact q
/-- the next token, which has to be of this kind -/
def spTake (c : Cs) : Sp := fun vs H Q E => ∃ (r a : Addr) (n : Nat) (t : Tok) (l : Toks) (k : Str), vs = [.ref r, .str k] ∧ RdrAt c H r a (⟨n, t⟩ :: l) ∧ k ≠ Str.ofString "end" ∧
  (kindOf t ≠ k → ErrOut c E [r] ⟨3, n⟩ H) ∧ (kindOf t = k → ∀ p e H', But [r] H H' → RdrAt c H' r a l → TokAt c H' p n t e → Q (.ref p) H')
theorem ok_Reader_take (T : Txt K mg c) : MethOk P w K mg base (L2.CX P w) 3 c.cReader "take" ["self", "kind"] (spTake c) := by
  obtain ⟨f_Fault, fd_Fault, fi_Fault, ft_Fault, b_Fault, F_Fault⟩ := ok_Fault_init (P := P) (w := w) (base := base) T
  refine MethOk.makeX T.m_Reader_take s_Reader_take (fun vs H Q E h => ?_) fun f cdv A outer s H vs Q E hr h => ?_
  · obtain ⟨r, a, n, t, l, k, rfl, hR, hk, qe, q⟩ := h
    rfl
  · obtain ⟨r, a, n, t, l, k, rfl, hR, hk, qe, q⟩ := h
    refine ⟨_, (pss_cons (ps_set (i := 2) s_Reader_take.nd rfl (Or.inl rfl) (pe_ix ix_list (pe_fld (pv 0) rfl) (pe_fld (pv 0) rfl) (fun _ _ => rfl)))
      (pss_cons (ps_if (pt_cmpR op_ne (pe_fld (pv 2) rfl) (pv 1) (nomark _))
      (pss_one (ps_raise rfl (takes_of rfl rfl rfl rfl) (pmk_err T.k_Fault.1 fi_Fault ft_Fault F_Fault (hr.mono (by decide)) b_Fault pass0 rfl T.k_Fault.2.2.1 (pa_cons pe_int (pa_cons (pe_fld (pv 2) rfl) pa_nil)))))
      pss_nil)
      (pss_cons (ps_fldaug (pv 0) pe_int in_add)
      (pss_one (ps_ret (pv 2)))))), ?_⟩
    walk_at "rd"
    obtain ⟨dx, us, ts, i, h1, h2, h3, h4, h5, h6⟩ := hR
    obtain ⟨p, e, hu, dxp, hp⟩ := h3.get h4.symm
    refine rd_fldAt h1 T.k_Reader T.a_Reader_tokens rfl ?_
    walk_at "rd"
    refine rd_fldAt h1 T.k_Reader T.a_Reader_at rfl ?_
    refine ⟨a, us, i, .ref p, rfl, rfl, SqL.of h2, atI_nat hu, ?_⟩
    walk_at "rd"
    refine rd_fldAt hp T.k_Token T.a_Token_kind rfl ?_
    walk_at "rd"
    refine rd_iteN (fun hne => ?_) (fun heq => ?_)
    · walk_at "rd"
      refine rd_fldAt hp T.k_Token T.a_Token_place rfl ?_
      walk_at "rd"
      refine fault_done (n := 3) (m := n) (by decide) (h6 ⟨n, t⟩ (by simp)) ?_
      exact (qe fun z => hne (by rw [z])).up fun b o hb h => ⟨by simp, h⟩
    · have heq : kindOf t = k := V.str.inj heq
      walk_at "rd"
      refine ⟨r, c.cReader, dx, _, _, rfl, h1, T.k_Reader, T.a_Reader_at, rfl, ?_⟩
      walk_at "rd"
      refine ⟨_, _, rfl, rfl, dx, _, h1, by walk_at "few", ?_⟩
      walk_at "rd"
      have htl : t ≠ .last := fun z => hk (by rw [← heq, z]; rfl)
      have notr : ∀ {x : Addr} {dx fs}, H x = some (.ins c.cToken dx fs) → fs.length = 4 → x ≠ r := fun {x dx' fs} hx hl z => by
        rw [z, h1] at hx
        injection hx with hx
        injection hx with _ _ hx
        rw [← hx] at hl
        exact absurd hl (show ¬ 2 = 4 by decide)
      have hp2 : upd H r (.ins c.cReader dx (putF "at" (.int ((i : Int) + 1)) (rdrF a i))) p = _ := (upd_ne (notr hp rfl)).trans hp
      have har : a ≠ r := ne_of h2 h1 (by intro z; cases z)
      refine q heq p e _ (But.upd (by simp)) ⟨dx, us, ts, i + 1, ?_, ?_, ?_, ?_, h5.tail htl, fun x hx => h6 x (List.mem_cons_of_mem _ hx)⟩ ⟨dxp, hp2⟩
      · rw [upd_same]; rfl
      · rw [upd_ne har]; exact h2
      · refine h3.stay (S := [r]) (But.upd (by simp)) fun x dx' fs hx => ?_
        rw [List.mem_singleton.mp hx, h1]
        by_cases hl : fs.length = 4
        · left; intro z
          injection z with z
          injection z with _ _ z
          rw [← z] at hl
          exact absurd hl (show ¬ 2 = 4 by decide)
        · exact .inr hl
      · rw [← List.drop_drop, ← h4]; rfl
/-! ### names -/
def wfN (b : List UInt8) : Prop := b ≠ [] ∧ b.length ≤ 16 ∧ ∀ x ∈ b, (isLetter x || isDigit x) = true
def nameVs (cs : List (List UInt8)) : List V := cs.map fun b => V.str (tx b)
theorem nameVs_flat (cs : List (List UInt8)) : (nameVs cs).all flatV = true := by
  unfold nameVs
  rw [List.all_map, List.all_eq_true]
  intro x _
  rfl
theorem eq_name {b d : List UInt8} (hb : wfN b) (hd : wfN d) : eqV (.str (tx d)) (.str (tx b)) = (d == b) := by
  show decide (tx d = tx b) = (d == b)
  by_cases z : d = b
  · rw [z, decide_eq_true rfl]; simp
  · rw [decide_eq_false (fun y => z ((tx_word hd.2.2 b hb.2.2).mp y))]; simpa using z
theorem in_names {b : List UInt8} (hb : wfN b) : ∀ {cs : List (List UInt8)}, (∀ d ∈ cs, wfN d) → inV (.str (tx b)) (nameVs cs) = cs.contains b
  | [], _ => rfl
  | d :: r, h => by
    have ih := in_names hb (cs := r) fun x hx => h x (List.mem_cons_of_mem _ hx)
    unfold inV at ih ⊢
    show (eqV (.str (tx d)) (.str (tx b)) || (nameVs r).any fun y => eqV y (.str (tx b))) = _
    rw [ih, eq_name hb (h d (by simp)), List.contains_cons]
    congr 1
    exact Bool.beq_comm
def newNameF (cs : List (List UInt8)) (l : Toks) : Except Fault (List UInt8 × Toks) := (takeName l).bind fun x => if COLUMNS ≤ cs.length then .error ⟨4, x.1.place⟩ else if cs.contains x.1.name = true then .error ⟨5, x.1.place⟩ else .ok (x.1.name, x.2)
theorem kname : (Str.ofString "name") ≠ Str.ofString "end" := by decide +kernel
theorem wf_name {n : Nat} {b : List UInt8} {l : Toks} (h : TL (⟨n, .name b⟩ :: l)) : wfN b := by
  cases h with
  | cons h _ => exact h
def spReadNewName (c : Cs) : Sp := fun vs H Q E => ∃ (r a nm : Addr) (cs : List (List UInt8)) (l : Toks), vs = [.ref r, .ref nm] ∧ RdrAt c H r a l ∧ H nm = some (.lst (nameVs cs)) ∧ cs.length ≤ 4 ∧ (∀ d ∈ cs, wfN d) ∧
  (∀ f, newNameF cs l = .error f → ErrOut c E [r] f H) ∧ ∀ b l', newNameF cs l = .ok (b, l') → ∀ H', But [r] H H' → RdrAt c H' r a l' → wfN b → Q (.str (tx b)) H'
theorem ok_read_new_name (T : Txt K mg c) : DefOk P w K mg base (L2.CX P w) 4 "read_new_name" ["reader", "names"] (spReadNewName c) := by
  obtain ⟨f_Reader_take, fd_Reader_take, m_Reader_take, b_Reader_take, F_Reader_take⟩ := ok_Reader_take (P := P) (w := w) (base := base) T
  obtain ⟨f_Fault, fd_Fault, fi_Fault, ft_Fault, b_Fault, F_Fault⟩ := ok_Fault_init (P := P) (w := w) (base := base) T
  refine DefOk.makeX T.d_read_new_name s_read_new_name (fun vs H Q E h => ?_) fun f cdv A outer s H vs Q E hr h => ?_
  · obtain ⟨r, a, nm, cs, l, rfl, hR, hnm, hc4, hwf, qe, q⟩ := h
    rfl
  · obtain ⟨r, a, nm, cs, l, rfl, hR, hnm, hc4, hwf, qe, q⟩ := h
    refine ⟨_, (pss_cons (ps_set (i := 2) s_read_new_name.nd rfl (Or.inl rfl) (pe_meth (pv 0) T.k_Reader m_Reader_take F_Reader_take (hr.mono (by decide)) b_Reader_take .nil (passes_call (takes_of rfl rfl rfl rfl) (fun _ _ _ _ h => h)) (pa_cons pe_str pa_nil)))
      (pss_cons (ps_if (pt_cmpR op_eq (pe_callB call_len_seq (by rfl) T.n_len (by decide +kernel) (pa_cons (pv 1) pa_nil)) (pe_glob rfl T.c_MOST_COLUMNS.choose_spec.1 T.c_MOST_COLUMNS.choose_spec.2) (nomark _))
      (pss_one (ps_raise rfl (takes_of rfl rfl rfl rfl) (pmk_err T.k_Fault.1 fi_Fault ft_Fault F_Fault (hr.mono (by decide)) b_Fault pass0 rfl T.k_Fault.2.2.1 (pa_cons pe_int (pa_cons (pe_fld (pv 2) rfl) pa_nil)))))
      pss_nil)
      (pss_cons (ps_if (pt_cmpR op_in_seq (pe_fld (pv 2) rfl) (pv 1) (by rfl))
      (pss_one (ps_raise rfl (takes_of rfl rfl rfl rfl) (pmk_err T.k_Fault.1 fi_Fault ft_Fault F_Fault (hr.mono (by decide)) b_Fault pass0 rfl T.k_Fault.2.2.1 (pa_cons pe_int (pa_cons (pe_fld (pv 2) rfl) pa_nil)))))
      pss_nil)
      (pss_one (ps_ret (pe_fld (pv 2) rfl)))))), ?_⟩
    walk_at "rd"
    obtain ⟨n, t, l', rfl, hn, htl⟩ := hR.head
    obtain ⟨dx, us, ts, i, h1, _⟩ := id hR
    refine ⟨r, dx, _, rfl, h1, rfl, ?_⟩
    walk_at "rd"
    refine ⟨r, a, n, t, l', _, rfl, hR, kname, fun hk => ?_, fun hk p e H1 k1 hR1 hp => ?_⟩
    · refine qe ⟨3, n⟩ ?_
      unfold newNameF
      rw [takeName_no fun z => hk (kind_name.mpr z)]
      rfl
    obtain ⟨b, rfl, hres⟩ := kind_name.mp hk
    have hb := wf_name htl
    have hnr : nm ≠ r := ne_of hnm h1 (by intro z; cases z)
    have hnm1 : H1 nm = some (.lst (nameVs cs)) := k1 _ _ (by simpa using hnr) hnm
    obtain ⟨dxp, hp⟩ := id hp
    have htn : takeName (⟨n, .name b⟩ :: l') = .ok (⟨n, b⟩, l') := takeName_yes hres
    walk_at "rd"
    refine ⟨nm, _, rfl, Or.inl (SqL.of hnm1), ?_⟩
    walk_at "rd"
    have hlen : (nameVs cs).length = cs.length := by unfold nameVs; rw [List.length_map]
    rw [hlen]
    refine rd_ite (fun h4 => ?_) (fun h4 => ?_)
    · have h4 : cs.length = 4 := by injection h4 with h4; omega
      walk_at "rd"
      refine rd_fldAt hp T.k_Token T.a_Token_place rfl ?_
      walk_at "rd"
      refine fault_done (n := 4) (m := n) (by decide) hn ?_
      refine ((qe ⟨4, n⟩ ?_).on k1).up fun b o hb h => ⟨by simp, h⟩
      unfold newNameF
      rw [htn]
      exact if_pos (by rw [h4]; decide)
    · have h4 : ¬ COLUMNS ≤ cs.length := fun z => h4 (by have : COLUMNS = 4 := rfl; rw [show cs.length = 4 by omega]; rfl)
      walk_at "rd"
      refine rd_fldAt hp T.k_Token T.a_Token_told rfl ?_
      walk_at "rd"
      refine ⟨nm, _, rfl, Or.inl (SqL.of hnm1), rfl, nameVs_flat cs, ?_⟩
      show ∃ k, V.bl (if false = true then _ else inV (.str (tx b)) (nameVs cs)) = _ ∧ _
      rw [if_neg (by decide), in_names hb hwf]
      walk_at "rd"
      refine rd_iteB (fun h5 => ?_) (fun h5 => ?_)
      · walk_at "rd"
        refine rd_fldAt hp T.k_Token T.a_Token_place rfl ?_
        walk_at "rd"
        refine fault_done (n := 5) (m := n) (by decide) hn ?_
        refine ((qe ⟨5, n⟩ ?_).on k1).up fun b o hb h => ⟨by simp, h⟩
        unfold newNameF
        rw [htn]
        exact (if_neg h4).trans (if_pos h5)
      · walk_at "rd"
        refine rd_fldAt hp T.k_Token T.a_Token_told rfl ?_
        refine q b l' ?_ H1 k1 hR1 hb
        unfold newNameF
        rw [htn]
        exact (if_neg h4).trans (if_neg (by rw [h5]; decide))
/-- a number within bounds -/
def numF (lo hi : Nat) (l : Toks) : Except Fault (Nat × Toks) := match l with
  | ⟨q, .num n⟩ :: r => if n < lo ∨ hi < n then .error ⟨7, q⟩ else .ok (n, r)
  | m => wrong m
theorem numF_no {lo hi p : Nat} {t : Tok} {r : Toks} (h : ¬ ∃ n, t = .num n) : numF lo hi (⟨p, t⟩ :: r) = .error ⟨3, p⟩ := by
  cases t with
  | num n => exact absurd ⟨n, rfl⟩ h
  | _ => rfl
def spReadNumber (c : Cs) : Sp := fun vs H Q E => ∃ (r a : Addr) (lo hi : Nat) (l : Toks), vs = [.ref r, .int lo, .int hi] ∧ RdrAt c H r a l ∧
  (∀ f, numF lo hi l = .error f → ErrOut c E [r] f H) ∧ ∀ n l', numF lo hi l = .ok (n, l') → ∀ H', But [r] H H' → RdrAt c H' r a l' → Q (.int n) H'
theorem knum : (Str.ofString "number") ≠ Str.ofString "end" := by decide +kernel
theorem ok_read_number (T : Txt K mg c) : DefOk P w K mg base (L2.CX P w) 4 "read_number" ["reader", "least", "greatest"] (spReadNumber c) := by
  obtain ⟨f_Reader_take, fd_Reader_take, m_Reader_take, b_Reader_take, F_Reader_take⟩ := ok_Reader_take (P := P) (w := w) (base := base) T
  obtain ⟨f_Fault, fd_Fault, fi_Fault, ft_Fault, b_Fault, F_Fault⟩ := ok_Fault_init (P := P) (w := w) (base := base) T
  refine DefOk.makeX T.d_read_number s_read_number (fun vs H Q E h => ?_) fun f cdv A outer s H vs Q E hr h => ?_
  · obtain ⟨r, a, lo, hi, l, rfl, hR, qe, q⟩ := h
    rfl
  · obtain ⟨r, a, lo, hi, l, rfl, hR, qe, q⟩ := h
    refine ⟨_, (pss_cons (ps_set (i := 3) s_read_number.nd rfl (Or.inl rfl) (pe_meth (pv 0) T.k_Reader m_Reader_take F_Reader_take (hr.mono (by decide)) b_Reader_take .nil (passes_call (takes_of rfl rfl rfl rfl) (fun _ _ _ _ h => h)) (pa_cons pe_str pa_nil)))
      (pss_cons (ps_if (PW.pt (pw_or (pt_cmpR op_lt (pe_fld (pv 3) rfl) (pv 1) (nomark _)) (pw_or1 (pt_cmpR op_gt (pe_fld (pv 3) rfl) (pv 2) (nomark _)))))
      (pss_one (ps_raise rfl (takes_of rfl rfl rfl rfl) (pmk_err T.k_Fault.1 fi_Fault ft_Fault F_Fault (hr.mono (by decide)) b_Fault pass0 rfl T.k_Fault.2.2.1 (pa_cons pe_int (pa_cons (pe_fld (pv 3) rfl) pa_nil)))))
      pss_nil)
      (pss_one (ps_ret (pe_fld (pv 3) rfl))))), ?_⟩
    walk_at "rd"
    obtain ⟨n, t, l', rfl, hn, htl⟩ := hR.head
    obtain ⟨dx, us, ts, i, h1, _⟩ := id hR
    refine ⟨r, dx, _, rfl, h1, rfl, ?_⟩
    walk_at "rd"
    refine ⟨r, a, n, t, l', _, rfl, hR, knum, fun hk => ?_, fun hk p e H1 k1 hR1 hp => ?_⟩
    · exact qe ⟨3, n⟩ (numF_no fun z => hk (kind_num.mpr z))
    obtain ⟨v, rfl⟩ := kind_num.mp hk
    obtain ⟨dxp, hp⟩ := id hp
    have bad : (v < lo ∨ hi < v) → ErrOut c E [] ⟨7, n⟩ H1 := fun h => ((qe ⟨7, n⟩ (if_pos h)).on k1).up fun b o hb h => ⟨by simp, h⟩
    walk_at "rd"
    refine rd_fldAt hp T.k_Token T.a_Token_told rfl ?_
    walk_at "rd"
    refine ⟨v, lo, rfl, rfl, ?_⟩
    walk_at "rd"
    refine rd_ite (fun h7 => ?_) (fun h7 => ?_)
    · walk_at "rd"
      refine rd_fldAt hp T.k_Token T.a_Token_place rfl ?_
      walk_at "rd"
      exact fault_done (n := 7) (m := n) (by decide) hn (bad (Or.inl (by omega)))
    walk_at "rd"
    refine rd_fldAt hp T.k_Token T.a_Token_told rfl ?_
    walk_at "rd"
    refine ⟨v, hi, rfl, rfl, ?_⟩
    walk_at "rd"
    refine rd_ite (fun h8 => ?_) (fun h8 => ?_)
    · walk_at "rd"
      refine rd_fldAt hp T.k_Token T.a_Token_place rfl ?_
      walk_at "rd"
      exact fault_done (n := 7) (m := n) (by decide) hn (bad (Or.inr (by omega)))
    · walk_at "rd"
      refine rd_fldAt hp T.k_Token T.a_Token_told rfl ?_
      exact q v l' (if_neg (by omega)) H1 k1 hR1
/-! ### a question's columns -/
def bitF (cs : List (List UInt8)) (g : Nat) (l : Toks) : Except Fault (Nat × Toks) := (takeName l).bind fun x => match cs.findIdx? fun c => c == x.1.name with
    | none => .error ⟨8, x.1.place⟩
    | some i => if g / 2 ^ i % 2 = 1 then .error ⟨6, x.1.place⟩ else .ok (2 ^ i, x.2)
theorem and_bit (g i : Nat) : g &&& 2 ^ i = 0 ↔ g / 2 ^ i % 2 ≠ 1 := by
  have e : g.testBit i = decide (g / 2 ^ i % 2 = 1) := Nat.testBit_eq_decide_div_mod_eq
  constructor
  · intro h z
    have q : (g &&& 2 ^ i).testBit i = false := by rw [h, Nat.zero_testBit]
    rw [Nat.testBit_and, Nat.testBit_two_pow, e, decide_eq_true z, decide_eq_true rfl] at q
    cases q
  · intro h
    refine Nat.eq_of_testBit_eq fun j => ?_
    rw [Nat.testBit_and, Nat.testBit_two_pow, Nat.zero_testBit]
    by_cases hj : i = j
    · subst hj
      rw [e, decide_eq_false h]; rfl
    · rw [decide_eq_false hj, Bool.and_false]
theorem bit_test (g i : Nat) : (Builtin.bitAnd (g : Int) ((2 ^ i : Nat) : Int) ≠ 0) ↔ g / 2 ^ i % 2 = 1 := by
  rw [PyProof.Rows.bitAnd_pp (Int.natCast_nonneg _) (Int.natCast_nonneg _), Int.toNat_natCast, Int.toNat_natCast]
  have q := and_bit g i
  constructor
  · intro h
    rcases Nat.lt_or_ge (g / 2 ^ i % 2) 1 with z | z
    · exact absurd (q.mpr (by omega)) (fun y => h (by rw [y]; rfl))
    · have := Nat.mod_lt (g / 2 ^ i) (by decide : 2 > 0)
      omega
  · intro h z
    exact (q.mp (by exact_mod_cast z)) h
theorem find_none {cs : List (List UInt8)} {b : List UInt8} : (cs.findIdx? fun c => c == b) = none ↔ cs.contains b = false := by
  rw [List.findIdx?_eq_none_iff]
  constructor
  · intro h
    cases hc : cs.contains b with
    | false => rfl
    | true =>
      have := h b (by simpa using hc)
      simp at this
  · intro h x hx
    by_cases e : x = b
    · subst e
      have : cs.contains x = true := by simpa using hx
      rw [h] at this
      cases this
    · simpa using e
def spReadBit (c : Cs) : Sp := fun vs H Q E => ∃ (r a nm : Addr) (cs : List (List UInt8)) (g : Nat) (l : Toks), vs = [.ref r, .ref nm, .int g] ∧ RdrAt c H r a l ∧ H nm = some (.lst (nameVs cs)) ∧ cs.length ≤ 4 ∧ (∀ d ∈ cs, wfN d) ∧
  (∀ f, bitF cs g l = .error f → ErrOut c E [r] f H) ∧ ∀ n l', bitF cs g l = .ok (n, l') → ∀ H', But [r] H H' → RdrAt c H' r a l' → Q (.int n) H'
theorem ok_read_column_bit (T : Txt K mg c) : DefOk P w K mg base (L2.CX P w) 4 "read_column_bit" ["reader", "columns", "grouping"] (spReadBit c) := by
  obtain ⟨f_Reader_take, fd_Reader_take, m_Reader_take, b_Reader_take, F_Reader_take⟩ := ok_Reader_take (P := P) (w := w) (base := base) T
  obtain ⟨f_Fault, fd_Fault, fi_Fault, ft_Fault, b_Fault, F_Fault⟩ := ok_Fault_init (P := P) (w := w) (base := base) T
  refine DefOk.makeX T.d_read_column_bit s_read_column_bit (fun vs H Q E h => ?_) fun f cdv A outer s H vs Q E hr h => ?_
  · obtain ⟨r, a, nm, cs, g, l, rfl, hR, hnm, hc4, hwf, qe, q⟩ := h
    rfl
  · obtain ⟨r, a, nm, cs, g, l, rfl, hR, hnm, hc4, hwf, qe, q⟩ := h
    refine ⟨_, (pss_cons (ps_set (i := 3) s_read_column_bit.nd rfl (Or.inl rfl) (pe_meth (pv 0) T.k_Reader m_Reader_take F_Reader_take (hr.mono (by decide)) b_Reader_take .nil (passes_call (takes_of rfl rfl rfl rfl) (fun _ _ _ _ h => h)) (pa_cons pe_str pa_nil)))
      (pss_cons (ps_if (pt_cmpR op_notIn_seq (pe_fld (pv 3) rfl) (pv 1) (by rfl))
      (pss_one (ps_raise rfl (takes_of rfl rfl rfl rfl) (pmk_err T.k_Fault.1 fi_Fault ft_Fault F_Fault (hr.mono (by decide)) b_Fault pass0 rfl T.k_Fault.2.2.1 (pa_cons pe_int (pa_cons (pe_fld (pv 3) rfl) pa_nil)))))
      pss_nil)
      (pss_cons (ps_set (i := 4) s_read_column_bit.nd rfl (Or.inl rfl) (pe_op op_shl pe_int (pe_bm PySem.F.plainAttrs_list PySem.F.slot_list_index PySem.F.type_list_index mt_index (pv 1) (pa_cons (pe_fld (pv 3) rfl) pa_nil))))
      (pss_cons (ps_if (pt_cmpR op_ne (pe_op op_and (pv 2) (pv 4)) pe_int (nomark _))
      (pss_one (ps_raise rfl (takes_of rfl rfl rfl rfl) (pmk_err T.k_Fault.1 fi_Fault ft_Fault F_Fault (hr.mono (by decide)) b_Fault pass0 rfl T.k_Fault.2.2.1 (pa_cons pe_int (pa_cons (pe_fld (pv 3) rfl) pa_nil)))))
      pss_nil)
      (pss_one (ps_ret (pv 4))))))), ?_⟩
    walk_at "rd"
    obtain ⟨n, t, l', rfl, hn, htl⟩ := hR.head
    obtain ⟨dx, us, ts, i, h1, _⟩ := id hR
    refine ⟨r, dx, _, rfl, h1, rfl, ?_⟩
    walk_at "rd"
    refine ⟨r, a, n, t, l', _, rfl, hR, kname, fun hk => ?_, fun hk p e H1 k1 hR1 hp => ?_⟩
    · refine qe ⟨3, n⟩ ?_
      unfold bitF
      rw [takeName_no fun z => hk (kind_name.mpr z)]
      rfl
    obtain ⟨b, rfl, hres⟩ := kind_name.mp hk
    have hb := wf_name htl
    have hnr : nm ≠ r := ne_of hnm h1 (by intro z; cases z)
    have hnm1 : H1 nm = some (.lst (nameVs cs)) := k1 _ _ (by simpa using hnr) hnm
    obtain ⟨dxp, hp⟩ := id hp
    have htn : takeName (⟨n, .name b⟩ :: l') = .ok (⟨n, b⟩, l') := takeName_yes hres
    have hbit : bitF cs g (⟨n, .name b⟩ :: l') = match cs.findIdx? fun c => c == b with
      | none => .error ⟨8, n⟩
      | some i => if g / 2 ^ i % 2 = 1 then .error ⟨6, n⟩ else .ok (2 ^ i, l') := by
      unfold bitF
      rw [htn]
      rfl
    walk_at "rd"
    refine rd_fldAt hp T.k_Token T.a_Token_told rfl ?_
    walk_at "rd"
    refine ⟨nm, _, rfl, Or.inl (SqL.of hnm1), rfl, nameVs_flat cs, ?_⟩
    show ∃ k, V.bl (if true = true then !inV (.str (tx b)) (nameVs cs) else _) = _ ∧ _
    rw [if_pos rfl, in_names hb hwf]
    walk_at "rd"
    cases hc : cs.contains b with
    | false =>
      refine L2.iteT ?_
      walk_at "rd"
      refine rd_fldAt hp T.k_Token T.a_Token_place rfl ?_
      walk_at "rd"
      refine fault_done (n := 8) (m := n) (by decide) hn ?_
      refine ((qe ⟨8, n⟩ ?_).on k1).up fun b o hb h => ⟨by simp, h⟩
      rw [hbit, find_none.mpr hc]
    | true =>
      refine L2.iteF ?_
      obtain ⟨j, hj⟩ : ∃ j, (cs.findIdx? fun c => c == b) = some j := by
        cases hf : cs.findIdx? fun c => c == b with
        | none => rw [find_none.mp hf] at hc; cases hc
        | some j => exact ⟨j, rfl⟩
      rw [hj] at hbit
      obtain ⟨hjl, hjb, hjm⟩ := List.findIdx?_eq_some_iff_getElem.mp hj
      have hjb : cs[j] = b := by simpa using hjb
      walk_at "rd"
      refine ⟨Or.inl ⟨rfl, _, SqL.of hnm1⟩, ?_⟩
      walk_at "rd"
      refine rd_fldAt hp T.k_Token T.a_Token_told rfl ?_
      walk_at "rd"
      refine ⟨nm, nameVs cs, _, j, .str (tx b), rfl, rfl, SqL.of hnm1, rfl, nameVs_flat cs, ?_, ?_, fun m z' hm hz => ?_, ?_⟩
      · unfold nameVs
        rw [List.getElem?_map, List.getElem?_eq_getElem hjl, hjb]; rfl
      · show eqV (.str (tx b)) (.str (tx b)) = true
        rw [eq_name hb hb]; simp
      · unfold nameVs at hz
        have hml : m < cs.length := by omega
        rw [List.getElem?_map, List.getElem?_eq_getElem hml] at hz
        injection hz with hz
        subst hz
        show eqV (.str (tx cs[m])) (.str (tx b)) = false
        rw [eq_name hb (hwf _ (List.getElem_mem hml))]
        have := hjm m hm
        simpa using this
      · refine rd_I ⟨by omega, by have : cs.length ≤ 4 := hc4; omega, by decide⟩ ?_
        walk_at "rd"
        have e1 : (1 : Int) * 2 ^ ((j : Int)).toNat = ((2 ^ j : Nat) : Int) := by
          rw [Int.one_mul, Int.toNat_natCast]; push_cast; rfl
        rw [e1]
        refine rd_iteN (fun h6 => ?_) (fun h6 => ?_)
        · have h6 : g / 2 ^ j % 2 = 1 := (bit_test g j).mp fun z => h6 (by rw [z])
          walk_at "rd"
          refine rd_fldAt hp T.k_Token T.a_Token_place rfl ?_
          walk_at "rd"
          refine fault_done (n := 6) (m := n) (by decide) hn ?_
          refine ((qe ⟨6, n⟩ ?_).on k1).up fun b o hb h => ⟨by simp, h⟩
          rw [hbit]
          exact if_pos h6
        · have h6 : ¬ g / 2 ^ j % 2 = 1 := fun z => ((bit_test g j).mpr z) (by injection h6)
          walk_at "rd"
          refine q (2 ^ j) l' ?_ H1 k1 hR1
          rw [hbit]
          exact if_neg h6
/-! ### an amount -/
theorem numF_zero (hi : Nat) (l : Toks) : numF 0 hi l = takeNat hi l := by
  cases l with
  | nil => rfl
  | cons x r =>
    obtain ⟨q, t⟩ := x
    cases t with
    | num n =>
      show (if n < 0 ∨ hi < n then _ else _) = (if hi < n then _ else _)
      by_cases h : hi < n
      · rw [if_pos h, if_pos (Or.inr h)]
      · rw [if_neg h, if_neg (by omega)]
    | _ => rfl
theorem kminus : (Str.ofString "-") = ⟨#[45]⟩ := by decide +kernel
theorem kcomma : (Str.ofString ",") = ⟨#[44]⟩ := by decide +kernel
theorem ksemi : (Str.ofString ";") = ⟨#[59]⟩ := by decide +kernel
theorem kcolon : (Str.ofString ":") = ⟨#[58]⟩ := by decide +kernel
theorem one_ne (n : Nat) : (⟨#[n]⟩ : Str) ≠ Str.ofString "end" := fun z => absurd (congrArg (fun s : Str => s.cps.size) z) (by show ¬ 1 = 3; decide)
theorem RdrAt.updL {H : Hp} {r a p : Addr} {l : Toks} {us ws : List V} (h : RdrAt c H r a l) (hp : H p = some (.lst us)) (hpa : p ≠ a) : RdrAt c (upd H p (.lst ws)) r a l := by
  obtain ⟨dx, _, _, _, h1, _⟩ := id h
  refine h.stay (S := [p]) (But.upd (by simp)) (by simpa using ne_of h1 hp (by intro z; cases z)) (by simpa using Ne.symm hpa) fun x hx dx fs z => ?_
  rw [List.mem_singleton.mp hx, hp] at z
  cases z
theorem RdrAt.ex {H H' : Hp} {r a : Addr} {l : Toks} (h : RdrAt c H r a l) (k : Ex H H') : RdrAt c H' r a l := h.stay (S := []) (fun b o _ e => k b o e) (by simp) (by simp) (by simp)
def spReadAmount (c : Cs) : Sp := fun vs H Q E => ∃ (r a : Addr) (l : Toks), vs = [.ref r] ∧ RdrAt c H r a l ∧
  (∀ f, takeInt l = .error f → ErrOut c E [r] f H) ∧ ∀ m l', takeInt l = .ok (m, l') → ∀ H', But [r] H H' → RdrAt c H' r a l' → Q (.int m) H'
theorem ok_read_amount (T : Txt K mg c) : DefOk P w K mg base (L2.CX P w) 5 "read_amount" ["reader"] (spReadAmount c) := by
  obtain ⟨f_Reader_sees, fd_Reader_sees, m_Reader_sees, b_Reader_sees, F_Reader_sees⟩ := ok_Reader_sees (P := P) (w := w) (base := base) T
  obtain ⟨f_Reader_take, fd_Reader_take, m_Reader_take, b_Reader_take, F_Reader_take⟩ := ok_Reader_take (P := P) (w := w) (base := base) T
  obtain ⟨f_read_number, fd_read_number, g_read_number, k_read_number, b_read_number, F_read_number⟩ := ok_read_number (P := P) (w := w) (base := base) T
  refine DefOk.makeX T.d_read_amount s_read_amount (fun vs H Q E h => ?_) fun f cdv A outer s H vs Q E hr h => ?_
  · obtain ⟨r, a, l, rfl, hR, qe, q⟩ := h
    rfl
  · obtain ⟨r, a, l, rfl, hR, qe, q⟩ := h
    refine ⟨_, (pss_cons (ps_if (pt_val (pe_meth (pv 0) T.k_Reader m_Reader_sees F_Reader_sees (hr.mono (by decide)) b_Reader_sees .nil pass0 (pa_cons pe_str pa_nil)))
      (pss_cons (ps_expr (pe_meth (pv 0) T.k_Reader m_Reader_take F_Reader_take (hr.mono (by decide)) b_Reader_take .nil (passes_call (takes_of rfl rfl rfl rfl) (fun _ _ _ _ h => h)) (pa_cons pe_str pa_nil)))
      (pss_one (ps_ret (pe_un un_neg (pe_call F_read_number (hr.mono (by decide)) rfl g_read_number k_read_number b_read_number .nil (passes_call (takes_of rfl rfl rfl rfl) (fun _ _ _ _ h => h)) (pa_cons (pv 0) (pa_cons pe_int (pa_cons (pe_glob rfl T.c_GREATEST_AMOUNT.choose_spec.1 T.c_GREATEST_AMOUNT.choose_spec.2) pa_nil))))))))
      pss_nil)
      (pss_one (ps_ret (pe_call F_read_number (hr.mono (by decide)) rfl g_read_number k_read_number b_read_number .nil (passes_call (takes_of rfl rfl rfl rfl) (fun _ _ _ _ h => h)) (pa_cons (pv 0) (pa_cons pe_int (pa_cons (pe_glob rfl T.c_GREATEST_AMOUNT.choose_spec.1 T.c_GREATEST_AMOUNT.choose_spec.2) pa_nil))))))), ?_⟩
    walk_at "rd"
    obtain ⟨n, t, l', rfl, hn, htl⟩ := hR.head
    obtain ⟨dx, us, ts, i, h1, _⟩ := id hR
    refine ⟨r, dx, _, rfl, h1, rfl, ?_⟩
    walk_at "rd"
    refine ⟨r, a, n, t, l', _, rfl, hR, ?_⟩
    walk_at "rd"
    rw [kminus]
    refine rd_ite (fun hk => ?_) (fun hk => ?_)
    · have ht := kind_sign.mp hk
      subst ht
      walk_at "rd"
      refine ⟨r, dx, _, rfl, h1, rfl, ?_⟩
      walk_at "rd"
      refine ⟨r, a, n, _, l', ⟨#[45]⟩, by rw [← kminus]; rfl, hR, one_ne 45, fun hk2 => absurd rfl hk2, fun _ p e H1 k1 hR1 _ => ?_⟩
      have e : takeInt (⟨n, .sign 45⟩ :: l') = (takeNat SIZE l').map fun x => (-(x.1 : Int), x.2) := rfl
      walk_at "rd"
      refine ⟨r, a, 0, 1000, l', rfl, hR1, fun f hf => ?_, fun m l2 hm H2 k2 hR2 => ?_⟩
      · refine (qe f ?_).on k1
        rw [numF_zero] at hf
        rw [e]
        exact (congrArg (Except.map _) hf)
      · walk_at "rd"
        refine q _ l2 ?_ H2 (k1.trans k2) hR2
        rw [numF_zero] at hm
        rw [e]
        exact (congrArg (Except.map _) hm)
    · have ht : t ≠ .sign 45 := fun z => hk (kind_sign.mpr z)
      have e : takeInt (⟨n, t⟩ :: l') = (takeNat SIZE (⟨n, t⟩ :: l')).map fun x => ((x.1 : Int), x.2) := by
        unfold takeInt
        have hf : next (.sign 45) (⟨n, t⟩ :: l') = false := by
          cases hx : next (.sign 45) (⟨n, t⟩ :: l') with
          | true => exact absurd (next_iff.mp hx) ht
          | false => rfl
        simp only [hf, Bool.false_eq_true, if_false]
      walk_at "rd"
      refine ⟨r, a, 0, 1000, _, rfl, hR, fun f hf => ?_, fun m l2 hm H2 k2 hR2 => ?_⟩
      · refine qe f ?_
        rw [numF_zero] at hf
        rw [e]
        exact (congrArg (Except.map _) hf)
      · refine q _ l2 ?_ H2 k2 hR2
        rw [numF_zero] at hm
        rw [e]
        exact (congrArg (Except.map _) hm)
/-! ### the columns' line -/
def colsAll (l : Toks) : Except Fault (List (List UInt8) × Toks) := (takeWord "columns" l).bind fun r => colsF [] r
def colsTail (cs : List (List UInt8)) (l : Toks) : Except Fault (List (List UInt8) × Toks) := if next (.sign 44) l = true then colsF cs (l.drop 1) else (takeSign 59 l).map fun m => (cs, m)
theorem colsF_new (cs : List (List UInt8)) (l : Toks) : colsF cs l = (newNameF cs l).bind fun x => colsTail (cs ++ [x.1]) x.2 := by
  rw [colsF_eq]
  unfold newNameF
  cases takeName l with
  | error e => rfl
  | ok x =>
    show (if COLUMNS ≤ cs.length then _ else _) = Except.bind (if COLUMNS ≤ cs.length then _ else _) _
    split
    · rfl
    · split
      · rfl
      · rfl
theorem next_no {t x : Tok} {p : Nat} {r : Toks} (h : x ≠ t) : next t (⟨p, x⟩ :: r) = false := by
  cases hx : next t (⟨p, x⟩ :: r) with
  | true => exact absurd (next_iff.mp hx) h
  | false => rfl
theorem newName_ok {cs : List (List UInt8)} {l l' : Toks} {b : List UInt8} (h : newNameF cs l = .ok (b, l')) : ¬ 4 ≤ cs.length := by
  unfold newNameF at h
  cases hn : takeName l with
  | error e => rw [hn] at h; cases h
  | ok x =>
    rw [hn] at h
    intro z
    have : (if COLUMNS ≤ cs.length then (Except.error ⟨4, x.1.place⟩ : Except Fault (List UInt8 × Toks)) else if cs.contains x.1.name = true then .error ⟨5, x.1.place⟩ else .ok (x.1.name, x.2)) = .ok (b, l') := h
    rw [if_pos (show COLUMNS ≤ cs.length from z)] at this
    cases this
def spReadColumns (c : Cs) : Sp := fun vs H Q E => ∃ (r a : Addr) (l : Toks), vs = [.ref r] ∧ RdrAt c H r a l ∧
  (∀ f, colsAll l = .error f → ErrOut c E [r] f H) ∧ ∀ cs l', colsAll l = .ok (cs, l') → ∀ p H', But [r] H H' → RdrAt c H' r a l' → H p = none → H' p = some (.lst (nameVs cs)) → 1 ≤ cs.length → cs.length ≤ 4 → (∀ d ∈ cs, wfN d) → Q (.ref p) H'
theorem kcols : (Str.ofString "columns") ≠ Str.ofString "end" := by decide +kernel
theorem ok_read_columns (T : Txt K mg c) : DefOk P w K mg base (L2.CX P w) 5 "read_columns" ["reader"] (spReadColumns c) := by
  obtain ⟨f_Reader_take, fd_Reader_take, m_Reader_take, b_Reader_take, F_Reader_take⟩ := ok_Reader_take (P := P) (w := w) (base := base) T
  obtain ⟨f_read_new_name, fd_read_new_name, g_read_new_name, k_read_new_name, b_read_new_name, F_read_new_name⟩ := ok_read_new_name (P := P) (w := w) (base := base) T
  obtain ⟨f_Reader_sees, fd_Reader_sees, m_Reader_sees, b_Reader_sees, F_Reader_sees⟩ := ok_Reader_sees (P := P) (w := w) (base := base) T
  refine DefOk.makeX T.d_read_columns s_read_columns (fun vs H Q E h => ?_) fun f cdv A outer s H vs Q E hr h => ?_
  · obtain ⟨r, a, l, rfl, hR, qe, q⟩ := h
    rfl
  · obtain ⟨r, a, l, rfl, hR, qe, q⟩ := h
    refine ⟨_, (pss_cons (ps_expr (pe_meth (pv 0) T.k_Reader m_Reader_take F_Reader_take (hr.mono (by decide)) b_Reader_take .nil (passes_call (takes_of rfl rfl rfl rfl) (fun _ _ _ _ h => h)) (pa_cons pe_str pa_nil)))
      (pss_cons (ps_set (i := 1) s_read_columns.nd rfl (Or.inl rfl) (pe_lst (pa_cons (pe_call F_read_new_name (hr.mono (by decide)) rfl g_read_new_name k_read_new_name b_read_new_name .nil (passes_call (takes_of rfl rfl rfl rfl) (fun _ _ _ _ h => h)) (pa_cons (pv 0) (pa_cons (pe_lst pa_nil) pa_nil))) pa_nil)))
      (pss_cons (ps_while (passes_of rfl) (pt_val (pe_meth (pv 0) T.k_Reader m_Reader_sees F_Reader_sees (hr.mono (by decide)) b_Reader_sees .nil pass0 (pa_cons pe_str pa_nil)))
      (pss_cons (ps_expr (pe_meth (pv 0) T.k_Reader m_Reader_take F_Reader_take (hr.mono (by decide)) b_Reader_take .nil (passes_call (takes_of rfl rfl rfl rfl) (fun _ _ _ _ h => h)) (pa_cons pe_str pa_nil)))
      (pss_one (ps_expr (pe_bm PySem.F.plainAttrs_list PySem.F.slot_list_append PySem.F.type_list_append mt_append (pv 1) (pa_cons (pe_call F_read_new_name (hr.mono (by decide)) rfl g_read_new_name k_read_new_name b_read_new_name .nil (passes_call (takes_of rfl rfl rfl rfl) (fun _ _ _ _ h => h)) (pa_cons (pv 0) (pa_cons (pv 1) pa_nil))) pa_nil))))))
      (pss_cons (ps_expr (pe_meth (pv 0) T.k_Reader m_Reader_take F_Reader_take (hr.mono (by decide)) b_Reader_take .nil (passes_call (takes_of rfl rfl rfl rfl) (fun _ _ _ _ h => h)) (pa_cons pe_str pa_nil)))
      (pss_one (ps_ret (pv 1))))))), ?_⟩
    walk_at "rd"
    have hsz : sizeLine = 16777216 := rfl
    obtain ⟨n, t, l', rfl, hn, htl⟩ := hR.head
    obtain ⟨dx, us, ts, i, h1, h2, _⟩ := id hR
    have hasR : ∀ {H2 : Hp}, But [r] H H2 → RdrAt c H2 r a l' → True := fun _ _ => trivial
    refine ⟨r, dx, _, rfl, h1, rfl, ?_⟩
    walk_at "rd"
    refine ⟨r, a, n, t, l', _, rfl, hR, kcols, fun hk => ?_, fun hk p0 e0 H1 k1 hR1 _ => ?_⟩
    · refine qe ⟨3, n⟩ ?_
      unfold colsAll takeWord
      rw [taken_no fun z => hk ((kind_word (Or.inl rfl)).mpr z)]
      rfl
    have ht := (kind_word (Or.inl rfl)).mp hk
    subst ht
    have eall : colsAll (⟨n, .name (word "columns")⟩ :: l') = colsF [] l' := by
      unfold colsAll takeWord
      rw [taken_yes]
      rfl
    rw [eall] at qe q
    walk_at "rd"
    refine ⟨Nat.zero_le _, fun nm hnm => ?_⟩
    walk_at "rd"
    have hnmH : nm ≠ r := fun z => by
      obtain ⟨_, _, _, _, g1, _⟩ := id hR1
      rw [z, g1] at hnm
      cases hnm
    refine ⟨r, a, nm, [], l', rfl, hR1.ex (Ex.new hnm), upd_same, by decide, by simp, fun f hf => ?_, fun b l2 hb H2 k2 hR2 hwb => ?_⟩
    · refine ((qe f ?_).on k1).on (fun b o _ h => Ex.new hnm b o h)
      rw [colsF_new, hf]; rfl
    walk_at "rd"
    refine ⟨(show 1 ≤ sizeLine by decide), fun p hp => ?_⟩
    have hpH : H p = none := by
      cases hx : H p with
      | none => rfl
      | some o =>
        have : p ∉ [r] := by
          intro z
          rw [List.mem_singleton.mp z] at hp
          obtain ⟨_, _, _, _, g1, _⟩ := id hR2
          rw [g1] at hp; cases hp
        rw [k2 _ _ this (Ex.new hnm _ _ (k1 _ _ this hx))] at hp
        cases hp
    have hpa : p ≠ a := fun z => by rw [z, h2] at hpH; cases hpH
    walk_at "rd"
    have k12 : But [r] H H2 := k1.trans (But.trans (fun b o _ h => Ex.new hnm b o h) k2)
    refine ⟨fun μ σ H' => ∃ (cs : List (List UInt8)) (l3 : Toks), σ = [some (.ref r), some (.ref p)] ∧ But [r] H H' ∧ RdrAt c H' r a l3 ∧ H' p = some (.lst (nameVs cs)) ∧ 1 ≤ cs.length ∧ cs.length ≤ 4 ∧ (∀ d ∈ cs, wfN d) ∧ μ = l3.length ∧ colsF [] l' = colsTail cs l3,
      ⟨_, [b], l2, rfl, fun x o hx h => ?_, hR2.ex (Ex.new hp), upd_same, Nat.le_refl 1, (show 1 ≤ 4 by decide), by simpa using hwb, rfl, ?_⟩, ?_⟩
    · rw [upd_ne (ne_of_none (k12 x o hx h) hp)]
      exact k12 x o hx h
    · rw [colsF_new, hb]; rfl
    rintro μ σ H3 ⟨cs, l3, rfl, k3, hR3, hp3, hc1, hc4, hwf, rfl, heq⟩
    obtain ⟨n3, t3, l4, rfl, hn3, htl3⟩ := hR3.head
    obtain ⟨dx3, _, _, _, g1, _⟩ := id hR3
    walk_at "rd"
    refine ⟨r, dx3, _, rfl, g1, rfl, ?_⟩
    walk_at "rd"
    refine ⟨r, a, n3, t3, l4, _, rfl, hR3, ?_⟩
    walk_at "rd"
    rw [kcomma]
    refine rd_ite (fun hk3 => ?_) (fun hk3 => ?_)
    · have ht := kind_sign.mp hk3
      subst ht
      have e1 : colsTail cs (⟨n3, .sign 44⟩ :: l4) = colsF cs l4 := by
        unfold colsTail
        rw [if_pos (next_iff.mpr rfl)]; rfl
      rw [e1] at heq
      refine ⟨_, fun _ _ h => h, ?_⟩
      walk_at "rd"
      refine ⟨r, dx3, _, rfl, g1, rfl, ?_⟩
      walk_at "rd"
      refine ⟨r, a, n3, _, l4, ⟨#[44]⟩, by rw [← kcomma]; rfl, hR3, one_ne 44, fun h => absurd rfl h, fun _ p4 e4 H4 k4 hR4 _ => ?_⟩
      have hpr : p ≠ r := fun z => by rw [z, g1] at hp3; cases hp3
      have hp4 : H4 p = some (.lst (nameVs cs)) := k4 _ _ (by simpa using hpr) hp3
      walk_at "rd"
      refine ⟨Or.inl ⟨rfl, _, SqL.of hp4⟩, ?_⟩
      walk_at "rd"
      refine ⟨r, a, p, cs, l4, rfl, hR4, hp4, hc4, hwf, fun f hf => ?_, fun b5 l5 hb5 H5 k5 hR5 hwb5 => ?_⟩
      · refine (qe f ?_).on (k3.trans k4)
        rw [heq, colsF_new, hf]; rfl
      have hp5 : H5 p = some (.lst (nameVs cs)) := k5 _ _ (by simpa using hpr) hp4
      have hl4 := newName_ok hb5
      walk_at "rd"
      have hlen : (nameVs cs).length = cs.length := by unfold nameVs; rw [List.length_map]
      refine ⟨p, _, _, rfl, rfl, hp5, by omega, ?_⟩
      walk_at "rd"
      have hl5 : l5.length < l4.length := by
        unfold newNameF at hb5
        cases hn5 : takeName l4 with
        | error e => rw [hn5] at hb5; cases hb5
        | ok x =>
          have hr := takeName_rest hn5
          rw [hn5] at hb5
          have e : (if COLUMNS ≤ cs.length then (Except.error ⟨4, x.1.place⟩ : Except Fault (List UInt8 × Toks)) else if cs.contains x.1.name = true then .error ⟨5, x.1.place⟩ else .ok (x.1.name, x.2)) = .ok (b5, l5) := hb5
          split at e
          · cases e
          · split at e
            · cases e
            · injection e with e
              injection e with _ e
              rw [← e]; exact hr
      refine ⟨l5.length, by rw [List.length_cons]; omega, cs ++ [b5], l5, rfl, fun x o hx h => ?_, hR5.updL hp5 hpa, ?_, ?_, ?_, ?_, rfl, ?_⟩
      · have hne : x ≠ p := fun z => by rw [z, hpH] at h; cases h
        rw [upd_ne hne]
        exact k5 _ _ hx (k4 _ _ hx (k3 _ _ hx h))
      · rw [upd_same]; unfold nameVs; rw [List.map_append]; rfl
      · rw [List.length_append]; omega
      · rw [List.length_append]; show cs.length + 1 ≤ 4; omega
      · intro d hd
        rcases List.mem_append.mp hd with z | z
        · exact hwf d z
        · rw [List.mem_singleton.mp z]; exact hwb5
      · rw [heq, colsF_new, hb5]; rfl
    · have ht : t3 ≠ .sign 44 := fun z => hk3 (kind_sign.mpr z)
      have e1 : colsTail cs (⟨n3, t3⟩ :: l4) = (takeSign 59 (⟨n3, t3⟩ :: l4)).map fun m => (cs, m) := by
        unfold colsTail
        rw [next_no ht, if_neg (by decide)]
      rw [e1] at heq
      walk_at "rd"
      refine ⟨r, dx3, _, rfl, g1, rfl, ?_⟩
      walk_at "rd"
      refine ⟨r, a, n3, t3, l4, ⟨#[59]⟩, by rw [← ksemi]; rfl, hR3, one_ne 59, fun hk4 => ?_, fun hk4 p4 e4 H4 k4 hR4 _ => ?_⟩
      · refine (qe ⟨3, n3⟩ ?_).on k3
        rw [heq]
        unfold takeSign
        rw [taken_no fun z => hk4 (kind_sign.mpr z)]; rfl
      · have ht4 := kind_sign.mp hk4
        subst ht4
        have hpr : p ≠ r := fun z => by rw [z, g1] at hp3; cases hp3
        walk_at "rd"
        refine q cs l4 ?_ p H4 (k3.trans k4) hR4 hpH (k4 _ _ (by simpa using hpr) hp3) hc1 hc4 hwf
        rw [heq]
        unfold takeSign
        rw [taken_yes]; rfl
/-! ### a question's columns, all of them -/
def askedTail (cs : List (List UInt8)) (g : Nat) (l : Toks) : Except Fault (Nat × Toks) := if next (.sign 44) l = true then askedF cs g (l.drop 1) else .ok (g, l)
theorem askedF_bit (cs : List (List UInt8)) (g : Nat) (l : Toks) : askedF cs g l = (bitF cs g l).bind fun x => askedTail cs (g + x.1) x.2 := by
  rw [askedF_eq]
  unfold bitF
  cases takeName l with
  | error e => rfl
  | ok x =>
    simp only [Except.bind]
    cases cs.findIdx? fun c => c == x.1.name with
    | none => rfl
    | some i =>
      simp only
      split
      · rfl
      · rfl
def isName : Toks → Bool
  | ⟨_, .name b⟩ :: _ => !RESERVED.contains b
  | _ => false
theorem isName_eq {n : Nat} {t : Tok} {l : Toks} : isName (⟨n, t⟩ :: l) = decide (kindOf t = Str.ofString "name") := by
  cases h : isName (⟨n, t⟩ :: l) with
  | true =>
    refine (decide_eq_true ?_).symm
    cases t with
    | name b => exact kind_name.mpr ⟨b, rfl, by simpa [isName] using h⟩
    | _ => cases h
  | false =>
    refine (decide_eq_false fun z => ?_).symm
    obtain ⟨b, rfl, hb⟩ := kind_name.mp z
    have : (!RESERVED.contains b) = false := h
    rw [hb] at this
    cases this
def groupF (cs : List (List UInt8)) (l : Toks) : Except Fault (Nat × Toks) := if isName l = true then askedF cs 0 l else .ok (0, l)
theorem bit_rest {cs : List (List UInt8)} {g : Nat} {l : Toks} {x : Nat × Toks} (h : bitF cs g l = .ok x) : x.2.length < l.length := by
  unfold bitF at h
  cases hn : takeName l with
  | error e => rw [hn] at h; cases h
  | ok y =>
    have hr := takeName_rest hn
    rw [hn] at h
    simp only [Except.bind] at h
    cases hf : cs.findIdx? fun c => c == y.1.name with
    | none => rw [hf] at h; cases h
    | some i =>
      rw [hf] at h
      simp only at h
      split at h
      · cases h
      · injection h with h
        rw [← h]; exact hr
def spReadGrouping (c : Cs) : Sp := fun vs H Q E => ∃ (r a nm : Addr) (cs : List (List UInt8)) (l : Toks), vs = [.ref r, .ref nm] ∧ RdrAt c H r a l ∧ H nm = some (.lst (nameVs cs)) ∧ cs.length ≤ 4 ∧ (∀ d ∈ cs, wfN d) ∧
  (∀ f, groupF cs l = .error f → ErrOut c E [r] f H) ∧ ∀ n l', groupF cs l = .ok (n, l') → ∀ H', But [r] H H' → RdrAt c H' r a l' → Q (.int n) H'
theorem ok_read_grouping (T : Txt K mg c) : DefOk P w K mg base (L2.CX P w) 5 "read_grouping" ["reader", "columns"] (spReadGrouping c) := by
  obtain ⟨f_Reader_sees, fd_Reader_sees, m_Reader_sees, b_Reader_sees, F_Reader_sees⟩ := ok_Reader_sees (P := P) (w := w) (base := base) T
  obtain ⟨f_read_column_bit, fd_read_column_bit, g_read_column_bit, k_read_column_bit, b_read_column_bit, F_read_column_bit⟩ := ok_read_column_bit (P := P) (w := w) (base := base) T
  obtain ⟨f_Reader_take, fd_Reader_take, m_Reader_take, b_Reader_take, F_Reader_take⟩ := ok_Reader_take (P := P) (w := w) (base := base) T
  refine DefOk.makeX T.d_read_grouping s_read_grouping (fun vs H Q E h => ?_) fun f cdv A outer s H vs Q E hr h => ?_
  · obtain ⟨r, a, nm, cs, l, rfl, hR, hnm, hc4, hwf, qe, q⟩ := h
    rfl
  · obtain ⟨r, a, nm, cs, l, rfl, hR, hnm, hc4, hwf, qe, q⟩ := h
    refine ⟨_, (pss_cons (ps_if (pt_not (pt_val (pe_meth (pv 0) T.k_Reader m_Reader_sees F_Reader_sees (hr.mono (by decide)) b_Reader_sees .nil pass0 (pa_cons pe_str pa_nil))))
      (pss_one (ps_ret pe_int))
      pss_nil)
      (pss_cons (ps_set (i := 2) s_read_grouping.nd rfl (Or.inl rfl) (pe_call F_read_column_bit (hr.mono (by decide)) rfl g_read_column_bit k_read_column_bit b_read_column_bit .nil (passes_call (takes_of rfl rfl rfl rfl) (fun _ _ _ _ h => h)) (pa_cons (pv 0) (pa_cons (pv 1) (pa_cons pe_int pa_nil)))))
      (pss_cons (ps_while (passes_of rfl) (pt_val (pe_meth (pv 0) T.k_Reader m_Reader_sees F_Reader_sees (hr.mono (by decide)) b_Reader_sees .nil pass0 (pa_cons pe_str pa_nil)))
      (pss_cons (ps_expr (pe_meth (pv 0) T.k_Reader m_Reader_take F_Reader_take (hr.mono (by decide)) b_Reader_take .nil (passes_call (takes_of rfl rfl rfl rfl) (fun _ _ _ _ h => h)) (pa_cons pe_str pa_nil)))
      (pss_one (ps_aug (i := 2) s_read_grouping.nd rfl (Or.inl rfl) (pe_call F_read_column_bit (hr.mono (by decide)) rfl g_read_column_bit k_read_column_bit b_read_column_bit .nil (passes_call (takes_of rfl rfl rfl rfl) (fun _ _ _ _ h => h)) (pa_cons (pv 0) (pa_cons (pv 1) (pa_cons (pv 2) pa_nil)))) ip_add))))
      (pss_one (ps_ret (pv 2)))))), ?_⟩
    walk_at "rd"
    obtain ⟨n, t, l', rfl, hn, htl⟩ := hR.head
    obtain ⟨dx, us, ts, i, h1, h2, _⟩ := id hR
    have hnr : nm ≠ r := ne_of hnm h1 (by intro z; cases z)
    refine ⟨r, dx, _, rfl, h1, rfl, ?_⟩
    walk_at "rd"
    refine ⟨r, a, n, t, l', _, rfl, hR, ?_⟩
    walk_at "rd"
    unfold groupF at qe q
    rw [isName_eq] at qe q
    by_cases hk : kindOf t = Str.ofString "name"
    · rw [decide_eq_true hk] at qe q
      rw [decide_eq_true hk]
      rw [if_pos rfl] at qe q
      refine L2.iteF ?_
      walk_at "rd"
      refine ⟨r, a, nm, cs, 0, _, rfl, hR, hnm, hc4, hwf, fun f hf => ?_, fun g1 l1 hg1 H1 k1 hR1 => ?_⟩
      · refine qe f ?_
        rw [askedF_bit, hf]; rfl
      walk_at "rd"
      refine ⟨fun μ σ H' => ∃ (g : Nat) (l3 : Toks), σ = [some (.ref r), some (.ref nm), some (.int g)] ∧ But [r] H H' ∧ RdrAt c H' r a l3 ∧ μ = l3.length ∧ askedF cs 0 (⟨n, t⟩ :: l') = askedTail cs g l3,
        ⟨_, g1, l1, rfl, k1, hR1, rfl, ?_⟩, ?_⟩
      · rw [askedF_bit, hg1]
        show askedTail cs (0 + g1) l1 = _
        rw [Nat.zero_add]
      rintro μ σ H3 ⟨g, l3, rfl, k3, hR3, rfl, heq⟩
      obtain ⟨n3, t3, l4, rfl, hn3, htl3⟩ := hR3.head
      obtain ⟨dx3, _, _, _, g1, _⟩ := id hR3
      have hnm3 : H3 nm = some (.lst (nameVs cs)) := k3 _ _ (by simpa using hnr) hnm
      walk_at "rd"
      refine ⟨r, dx3, _, rfl, g1, rfl, ?_⟩
      walk_at "rd"
      refine ⟨r, a, n3, t3, l4, _, rfl, hR3, ?_⟩
      walk_at "rd"
      rw [kcomma]
      refine rd_ite (fun hk3 => ?_) (fun hk3 => ?_)
      · have ht := kind_sign.mp hk3
        subst ht
        have e1 : askedTail cs g (⟨n3, .sign 44⟩ :: l4) = askedF cs g l4 := by
          unfold askedTail
          rw [if_pos (next_iff.mpr rfl)]; rfl
        rw [e1] at heq
        refine ⟨_, fun _ _ h => h, ?_⟩
        walk_at "rd"
        refine ⟨r, dx3, _, rfl, g1, rfl, ?_⟩
        walk_at "rd"
        refine ⟨r, a, n3, _, l4, ⟨#[44]⟩, by rw [← kcomma]; rfl, hR3, one_ne 44, fun h => absurd rfl h, fun _ p4 e4 H4 k4 hR4 _ => ?_⟩
        walk_at "rd"
        refine ⟨r, a, nm, cs, g, l4, rfl, hR4, k4 _ _ (by simpa using hnr) hnm3, hc4, hwf, fun f hf => ?_, fun b5 l5 hb5 H5 k5 hR5 => ?_⟩
        · refine (qe f ?_).on (k3.trans k4)
          rw [heq, askedF_bit, hf]; rfl
        walk_at "rd"
        have hlt : l5.length < l4.length := bit_rest hb5
        refine ⟨l5.length, by rw [List.length_cons]; show l5.length < l4.length + 1; omega, g + b5, l5, rfl, k3.trans (k4.trans k5), hR5, rfl, ?_⟩
        rw [heq, askedF_bit, hb5]; rfl
      · have ht : t3 ≠ .sign 44 := fun z => hk3 (kind_sign.mpr z)
        have e1 : askedTail cs g (⟨n3, t3⟩ :: l4) = .ok (g, ⟨n3, t3⟩ :: l4) := by
          unfold askedTail
          rw [next_no ht, if_neg (by decide)]
        rw [e1] at heq
        walk_at "rd"
        exact q g _ heq H3 k3 hR3
    · rw [decide_eq_false hk] at qe q
      rw [decide_eq_false hk]
      rw [if_neg (by decide)] at qe q
      refine L2.iteT ?_
      walk_at "rd"
      exact q 0 _ rfl H (But.refl H) hR
/-! ### the table -/
inductive All2 {α β : Type} (F : α → β → Prop) : List α → List β → Prop where
  | nil : All2 F [] []
  | cons {a : α} {b : β} {as : List α} {bs : List β} (h : F a b) (t : All2 F as bs) : All2 F (a :: as) (b :: bs)
theorem All2.len {α β : Type} {F : α → β → Prop} {as : List α} {bs : List β} (h : All2 F as bs) : as.length = bs.length := by
  induction h with
  | nil => rfl
  | cons _ _ ih => rw [List.length_cons, List.length_cons, ih]
theorem All2.imp {α β : Type} {F G : α → β → Prop} {as : List α} {bs : List β} (h : All2 F as bs) (k : ∀ a b, F a b → G a b) : All2 G as bs := by
  induction h with
  | nil => exact .nil
  | cons h _ ih => exact .cons (k _ _ h) ih
theorem All2.snoc {α β : Type} {F : α → β → Prop} {as : List α} {bs : List β} (h : All2 F as bs) {a : α} {b : β} (x : F a b) : All2 F (as ++ [a]) (bs ++ [b]) := by
  induction h with
  | nil => exact .cons x .nil
  | cons h _ ih => exact .cons h ih
theorem All2.get {α β : Type} {F : α → β → Prop} {as : List α} {bs : List β} (h : All2 F as bs) : ∀ {i : Nat} {a : α}, as[i]? = some a → ∃ b, bs[i]? = some b ∧ F a b := by
  induction h with
  | nil => intro i a h; simp at h
  | @cons a0 b0 as bs h t ih =>
    intro i a e
    cases i with
    | zero => rw [List.getElem?_cons_zero] at e; injection e with e; subst e; exact ⟨b0, rfl, h⟩
    | succ i => exact ih (i := i) (by simpa using e)
def tabF (ca ra qa : Addr) : List (Str × V) := [("columns", .ref ca), ("rows", .ref ra), ("questions", .ref qa)]
def intVs (l : List Nat) : List V := l.map fun (n : Nat) => V.int (n : Int)
def RowV (H : Hp) (v : V) (x : Row) : Prop := ∃ p vt, v = .ref p ∧ H p = some (.tup [.ref vt, .int x.m]) ∧ H vt = some (.tup (intVs x.vs))
def AskV (H : Hp) (v : V) (x : Ask) : Prop := ∃ p, v = .ref p ∧ H p = some (.tup [.int (x.g : Nat), .int (x.k : Nat)])
structure TabAt (c : Cs) (H : Hp) (tb ca ra qa : Addr) (t : Table) : Prop where
  o : ∃ dx, H tb = some (.ins c.cTable dx (tabF ca ra qa))
  cols : H ca = some (.lst (nameVs t.cols))
  rows : ∃ rvs, H ra = some (.lst rvs) ∧ All2 (RowV H) rvs t.rows
  asks : ∃ qvs, H qa = some (.lst qvs) ∧ All2 (AskV H) qvs t.asks
  ne : ca ≠ ra ∧ ca ≠ qa ∧ ra ≠ qa
theorem RowV.stay {S : List Addr} {H H' : Hp} (k : But S H H') (hS : ∀ x ∈ S, ∀ xs, H x ≠ some (.tup xs)) {v : V} {x : Row} (h : RowV H v x) : RowV H' v x := by
  obtain ⟨p, vt, e, h1, h2⟩ := h
  exact ⟨p, vt, e, k _ _ (fun z => hS _ z _ h1) h1, k _ _ (fun z => hS _ z _ h2) h2⟩
theorem AskV.stay {S : List Addr} {H H' : Hp} (k : But S H H') (hS : ∀ x ∈ S, ∀ xs, H x ≠ some (.tup xs)) {v : V} {x : Ask} (h : AskV H v x) : AskV H' v x := by
  obtain ⟨p, e, h1⟩ := h
  exact ⟨p, e, k _ _ (fun z => hS _ z _ h1) h1⟩
theorem TabAt.stay {S : List Addr} {H H' : Hp} {tb ca ra qa : Addr} {t : Table} (h : TabAt c H tb ca ra qa t) (k : But S H H') (hS : ∀ x ∈ S, ∀ xs, H x ≠ some (.tup xs)) (h1 : tb ∉ S) (h2 : ca ∉ S) (h3 : ra ∉ S) (h4 : qa ∉ S) : TabAt c H' tb ca ra qa t := by
  obtain ⟨⟨dx, o⟩, hc, ⟨rvs, hr, ar⟩, ⟨qvs, hq, aq⟩, ne⟩ := h
  exact ⟨⟨dx, k _ _ h1 o⟩, k _ _ h2 hc, ⟨rvs, k _ _ h3 hr, ar.imp fun _ _ z => z.stay k hS⟩, ⟨qvs, k _ _ h4 hq, aq.imp fun _ _ z => z.stay k hS⟩, ne⟩
/-- the reader has moved on -/
theorem TabAt.on {H H' : Hp} {r a tb ca ra qa : Addr} {t : Table} {l : Toks} (h : TabAt c H tb ca ra qa t) (hR : RdrAt c H r a l) (k : But [r] H H') : TabAt c H' tb ca ra qa t := by
  obtain ⟨dx, _, _, i, h1, _⟩ := id hR
  obtain ⟨⟨dt, o⟩, hc, ⟨rvs, hr, _⟩, ⟨qvs, hq, _⟩, _⟩ := id h
  refine h.stay k (fun x hx xs z => ?_) ?_ ?_ ?_ ?_
  · rw [List.mem_singleton.mp hx, h1] at z; cases z
  · simp only [List.mem_singleton]
    intro z
    rw [z, h1] at o
    injection o with o
    injection o with _ _ o
    exact absurd (congrArg List.length o) (show ¬ 2 = 3 by decide)
  · simpa using ne_of hc h1 (by intro z; cases z)
  · simpa using ne_of hr h1 (by intro z; cases z)
  · simpa using ne_of hq h1 (by intro z; cases z)
end
end Bk
end
section
local macro_rules | `(tactic| walk_at "rd1") => `(tactic| first
  | with_reducible refine Bk.rd_seq ?_
  | ((with_reducible refine' Bk.rd_var ?k1 ?_); (case k1 => exact rfl))
  | with_reducible refine Bk.rd_c ?_
  | with_reducible refine Bk.rd_op ?_
  | with_reducible refine Bk.rd_I0 ?_
  | ((with_reducible refine' Bk.rd_I ?k1 ?_); (case k1 => first | assumption | omega))
  | with_reducible refine Bk.rd_test ?_
  | with_reducible refine Bk.rd_tB ?_
  | with_reducible refine Bk.rd_bl ?_
  | ((with_reducible refine' Bk.rd_eq ?k1 ?_); (case k1 => exact rfl))
  | ((with_reducible refine' Bk.rd_ne ?k1 ?_); (case k1 => exact rfl))
  | with_reducible refine Bk.rd_and ?_
  | with_reducible refine Bk.rd_or ?_
  | with_reducible refine Bk.rd_not ?_
  | with_reducible refine Bk.rd_andV ?_
  | with_reducible refine Bk.rd_isN ?_
  | with_reducible refine Bk.rd_notN ?_
  | with_reducible refine Bk.rd_asg ?_
  | with_reducible refine Bk.rd_nm ?_
  | with_reducible refine Bk.rd_ret ?_
  | with_reducible refine Bk.rd_drop ?_
  | with_reducible refine Bk.rd_if ?_
  | with_reducible refine Bk.rd_ifE ?_
  | ((with_reducible refine' Bk.rd_aug ?k1 ?_); (case k1 => exact rfl))
  | with_reducible refine Bk.rd_ipI ?_
  | with_reducible refine Bk.rd_nil ?_
  | with_reducible refine Bk.rd_cons ?_
  | with_reducible refine Bk.rd_CB ?_
  | with_reducible refine Bk.rd_call ?_
  | with_reducible refine Bk.rd_callS ?_
  | with_reducible refine Bk.rd_un ?_
  | with_reducible refine Bk.rd_U ?_
  | with_reducible refine Bk.rd_fld ?_
  | with_reducible refine Bk.rd_sfld ?_
  | with_reducible refine Bk.rd_tup ?_
  | with_reducible refine Bk.rd_lst ?_
  | with_reducible refine Bk.rd_next ?_
  | with_reducible refine Bk.rd_brk ?_
  | with_reducible refine Bk.rd_BM ?_
  | with_reducible refine Bk.rd_BM0 ?_
  | with_reducible refine Bk.rd_for ?_
  | with_reducible refine Bk.rd_iStr ?_
  | with_reducible refine Bk.rd_fldaug ?_
  | with_reducible refine Bk.rd_mkO ?_
  | with_reducible refine Bk.rd_js ?_
  | with_reducible refine Bk.rd_js0 ?_
  | with_reducible refine Bk.rd_fmt ?_
  | with_reducible refine Bk.rd_erI ?_
  | with_reducible refine Bk.rd_erSet ?_
  | with_reducible refine Bk.rd_lc ?_
  | with_reducible refine Bk.rd_yes' ?_
  | with_reducible refine Bk.rd_iList ?_
  | with_reducible refine Bk.rd_iTup ?_
  | with_reducible refine Bk.rd_iRng1 ?_
  | with_reducible refine Bk.rd_iEnum ?_
  | with_reducible refine Bk.rd_iZip ?_
  | with_reducible refine Bk.rd_iEnumT ?_
  | with_reducible refine Bk.rd_M1 ?_
  | with_reducible refine Bk.rd_dget2 ?_
  | with_reducible refine Bk.rd_dput ?_
  | with_reducible refine Bk.rd_sl ?_
  | with_reducible refine Bk.rd_noPart ?_
  | with_reducible refine Bk.rd_part ?_
  | with_reducible refine Bk.rd_int ?_
  | with_reducible refine Bk.rd_str ?_
  | with_reducible refine Bk.rd_isstr ?_
  | with_reducible refine Bk.rd_make ?_
  | with_reducible refine Bk.rd_meth ?_
  | with_reducible refine L2.iteT ?_
  | with_reducible refine L2.iteF ?_)
local macro_rules | `(tactic| walk_at "rd") => `(tactic| repeat (walk_at "rd1"))
local macro_rules | `(tactic| walk_at "few") => `(tactic| first | exact (show (0 : Nat) < 1000 by decide) | exact (show (1 : Nat) < 1000 by decide) | exact (show (2 : Nat) < 1000 by decide) | exact (show (3 : Nat) < 1000 by decide) | exact (show (4 : Nat) < 1000 by decide) | exact (show (5 : Nat) < 1000 by decide) | exact (show (6 : Nat) < 1000 by decide) | exact (show (7 : Nat) < 1000 by decide))

/-! tables read: lines, the whole text -/
namespace Bk
open PySem hiding Tok
open PySem.Spec hiding Row
open PyProof.Rows L2
open VamvsBase (isBlank isDigit isLetter token lex Tok PTok Toks numberOf decimal SIGNS RESERVED word tokEq NAME NUMBER next nextWord taken takeWord takeSign takeName wrong here PName)
open Vamvsa (takeColumns takeNat takeValues takeInt takeAsked takeTimes takeAsk takeLines Table Row Ask COLUMNS ROWS ASKS VALUE SIZE TIMES)
section
variable {P : Program} {w : World} {K : PySem.W.Frag} {mg : Str → Option Value} {base : Heap} {c : Cs}
/-- a cut behind a statement -/
theorem rd_seqJ {t u : TS} {D : Ends} {σ : L2.St} {H : Hp} (M : L2.St → Hp → Prop) (h : ∀ σ H, M σ H → u D σ H) (q : ∀ N : L2.St → Hp → Prop, (∀ σ H, M σ H → N σ H) → t { D with nx := N } σ H) : tSeq t u D σ H := q (u D) h
/-! ### a question -/
theorem ebo {ε α β : Type} {a : α} {f : α → Except ε β} : Except.bind (.ok a) f = f a := rfl
theorem ebe {ε α β : Type} {e : ε} {f : α → Except ε β} : Except.bind (.error e) f = .error e := rfl
theorem emo {ε α β : Type} {a : α} {f : α → β} : Except.map f (.ok a : Except ε α) = .ok (f a) := rfl
theorem eme {ε α β : Type} {e : ε} {f : α → β} : Except.map f (.error e : Except ε α) = .error e := rfl
theorem RdrAt.notL {H : Hp} {r a x : Addr} {l : Toks} {xs : List V} (h : RdrAt c H r a l) (hx : H x = some (.lst xs)) : x ≠ r := fun z => by
  obtain ⟨_, _, _, _, h1, _⟩ := h
  rw [z, h1] at hx
  cases hx
theorem RdrAt.notN {H : Hp} {r a x : Addr} {l : Toks} (h : RdrAt c H r a l) (hx : H x = none) : x ≠ r := fun z => by
  obtain ⟨_, _, _, _, h1, _⟩ := h
  rw [z, h1] at hx
  cases hx
theorem RdrAt.notA {H : Hp} {r a x : Addr} {l : Toks} (h : RdrAt c H r a l) (hx : H x = none) : x ≠ a := fun z => by
  obtain ⟨_, _, _, _, _, h1, _⟩ := h
  rw [z, h1] at hx
  cases hx
/-- what was free is free before -/
theorem But.none {S : List Addr} {H H' : Hp} {x : Addr} (k : But S H H') (hx : x ∉ S) (h : H' x = none) : H x = none := by
  cases e : H x with
  | none => rfl
  | some o => rw [k x o hx e] at h; cases h
def timesF (l : Toks) : Except Fault (Nat × Toks) := if nextWord "times" l = true then numF 1 99 (l.drop 1) else .ok (1, l)
theorem takeTimes_eq (l : Toks) : takeTimes l = timesF l := by
  unfold takeTimes timesF
  split
  · cases l.drop 1 with
    | nil => rfl
    | cons x r =>
      obtain ⟨q, t⟩ := x
      cases t <;> rfl
  · rfl
def askBody (cs : List (List UInt8)) (l : Toks) : Except Fault (Ask × Toks) := (groupF cs l).bind fun g => (timesF g.2).bind fun k => (takeSign 59 k.2).map fun m => (⟨g.1, k.1⟩, m)
theorem takeAsk_eq (cs : List (List UInt8)) (l : Toks) : takeAsk cs l = askBody cs l := by
  unfold takeAsk askBody groupF
  simp only [takeTimes_eq]
  cases l with
  | nil => rfl
  | cons x r =>
    obtain ⟨n, t⟩ := x
    cases hi : isName (⟨n, t⟩ :: r) with
    | true =>
      rw [isName_eq] at hi
      obtain ⟨b, rfl, hb⟩ := kind_name.mp (of_decide_eq_true hi)
      have h1 : nextWord "times" (⟨n, .name b⟩ :: r) = false := next_no fun z => by
        injection z with z
        subst z
        revert hb
        decide +kernel
      have h2 : next (.sign 59) (⟨n, .name b⟩ :: r) = false := next_no fun z => by cases z
      rw [if_neg (by rw [h1, h2]; simp), if_pos rfl]
      rfl
    | false =>
      rw [isName_eq] at hi
      have hk := of_decide_eq_false hi
      by_cases h : nextWord "times" (⟨n, t⟩ :: r) = true ∨ next (.sign 59) (⟨n, t⟩ :: r) = true
      · rw [if_pos h, if_neg (by decide)]
      · rw [if_neg h, if_neg (by decide)]
        have e1 : takeAsked cs ((⟨n, t⟩ :: r : Toks).length + 1) 0 (⟨n, t⟩ :: r) = .error ⟨3, n⟩ := by
          have := askedF_eq cs 0 (⟨n, t⟩ :: r)
          rw [takeName_no fun z => hk (kind_name.mpr z)] at this
          exact this
        rw [e1]
        show _ = (timesF (⟨n, t⟩ :: r)).bind _
        have e2 : timesF (⟨n, t⟩ :: r) = .ok (1, ⟨n, t⟩ :: r) := if_neg fun z => h (Or.inl z)
        rw [e2]
        show _ = (takeSign 59 (⟨n, t⟩ :: r)).map _
        have e3 : takeSign 59 (⟨n, t⟩ :: r) = .error ⟨3, n⟩ := taken_no fun z => h (Or.inr (next_iff.mpr z))
        rw [e3]
        rfl
/-- what is true of every table that a text tells -/
structure TOk (t : Table) : Prop where
  c1 : 1 ≤ t.cols.length
  c4 : t.cols.length ≤ 4
  wf : ∀ d ∈ t.cols, wfN d
  r16 : t.rows.length ≤ 16
  q8 : t.asks.length ≤ 8
  row : ∀ x ∈ t.rows, x.vs.length = t.cols.length ∧ (∀ v ∈ x.vs, v ≤ 9) ∧ x.m.natAbs ≤ 1000
  ask : ∀ x ∈ t.asks, x.g < 2 ^ t.cols.length ∧ 1 ≤ x.k ∧ x.k ≤ 99
theorem upd2_ne {H : Hp} {a b x : Addr} {o u : HO} (h1 : x ≠ a) (h2 : x ≠ b) : upd (upd H a o) b u x = H x := by rw [upd_ne h2, upd_ne h1]
/-- one more question -/
theorem TabAt.ask {H : Hp} {tb ca ra qa p : Addr} {t : Table} (h : TabAt c H tb ca ra qa t) (hp : H p = none) (x : Ask) {qvs : List V} (hqv : H qa = some (.lst qvs)) :
    TabAt c (upd (upd H p (.tup [.int (x.g : Nat), .int (x.k : Nat)])) qa (.lst (qvs ++ [.ref p]))) tb ca ra qa { t with asks := t.asks ++ [x] } := by
  obtain ⟨⟨dx, o⟩, hc, ⟨rvs, hr, ar⟩, ⟨qvs', hq, aq⟩, n1, n2, n3⟩ := h
  rw [hqv] at hq
  injection hq with hq
  injection hq with hq
  subst hq
  have k : But [qa] H (upd (upd H p (.tup [.int (x.g : Nat), .int (x.k : Nat)])) qa (.lst (qvs ++ [.ref p]))) := fun b o hb hh => by
    rw [upd2_ne (ne_of_none hh hp) (by simpa using hb)]; exact hh
  have hS : ∀ y ∈ [qa], ∀ xs, H y ≠ some (.tup xs) := fun y hy xs z => by
    rw [List.mem_singleton.mp hy, hqv] at z; cases z
  refine ⟨⟨dx, ?_⟩, ?_, ⟨rvs, ?_, ar.imp fun _ _ z => z.stay k hS⟩, ⟨qvs ++ [.ref p], upd_same, (aq.imp fun _ _ z => z.stay k hS).snoc ⟨p, rfl, ?_⟩⟩, n1, n2, n3⟩
  · rw [upd2_ne (ne_of_none o hp) (ne_of o hqv (by intro z; cases z))]; exact o
  · rw [upd2_ne (ne_of_none hc hp) n2]; exact hc
  · rw [upd2_ne (ne_of_none hr hp) n3]; exact hr
  · rw [upd_ne (Ne.symm (ne_of_none hqv hp)), upd_same]
/-- one more row -/
theorem TabAt.row {H : Hp} {tb ca ra qa p vt : Addr} {t : Table} (h : TabAt c H tb ca ra qa t) (hp : H p = none) (x : Row) {rvs : List V} (hrv : H ra = some (.lst rvs)) (hv : H vt = some (.tup (intVs x.vs))) :
    TabAt c (upd (upd H p (.tup [.ref vt, .int x.m])) ra (.lst (rvs ++ [.ref p]))) tb ca ra qa { t with rows := t.rows ++ [x] } := by
  obtain ⟨⟨dx, o⟩, hc, ⟨rvs', hr, ar⟩, ⟨qvs, hq, aq⟩, n1, n2, n3⟩ := h
  rw [hrv] at hr
  injection hr with hr
  injection hr with hr
  subst hr
  have k : But [ra] H (upd (upd H p (.tup [.ref vt, .int x.m])) ra (.lst (rvs ++ [.ref p]))) := fun b o hb hh => by
    rw [upd2_ne (ne_of_none hh hp) (by simpa using hb)]; exact hh
  have hS : ∀ y ∈ [ra], ∀ xs, H y ≠ some (.tup xs) := fun y hy xs z => by
    rw [List.mem_singleton.mp hy, hrv] at z; cases z
  refine ⟨⟨dx, ?_⟩, ?_, ⟨rvs ++ [.ref p], upd_same, (ar.imp fun _ _ z => z.stay k hS).snoc ⟨p, vt, rfl, ?_, ?_⟩⟩, ⟨qvs, ?_, aq.imp fun _ _ z => z.stay k hS⟩, n1, n2, n3⟩
  · rw [upd2_ne (ne_of_none o hp) (ne_of o hrv (by intro z; cases z))]; exact o
  · rw [upd2_ne (ne_of_none hc hp) n1]; exact hc
  · rw [upd_ne (Ne.symm (ne_of_none hrv hp)), upd_same]
  · rw [upd2_ne (ne_of_none hv hp) (ne_of hv hrv (by intro z; cases z))]; exact hv
  · rw [upd2_ne (ne_of_none hq hp) (Ne.symm n3)]; exact hq
def askF (t : Table) (l : Toks) : Except Fault (Table × Toks) := (takeWord "ask" l).bind fun r => if ASKS ≤ t.asks.length then .error ⟨4, here l⟩ else (takeAsk t.cols r).map fun a => ({ t with asks := t.asks ++ [a.1] }, a.2)
theorem kask : (Str.ofString "ask") ≠ Str.ofString "end" := by decide +kernel
theorem ktimes : (Str.ofString "times") ≠ Str.ofString "end" := by decide +kernel
def spReadQuestion (c : Cs) : Sp := fun vs H Q E => ∃ (r a tb ca ra qa : Addr) (t : Table) (l : Toks), vs = [.ref r, .ref tb] ∧ RdrAt c H r a l ∧ TabAt c H tb ca ra qa t ∧ qa ≠ a ∧ TOk t ∧
  (∀ f, askF t l = .error f → ErrOut c E [r] f H) ∧ ∀ t' l', askF t l = .ok (t', l') → ∀ H', But [r, qa] H H' → RdrAt c H' r a l' → TabAt c H' tb ca ra qa t' → Q .non H'
theorem ok_read_question (T : Txt K mg c) : DefOk P w K mg base (L2.CX P w) 6 "read_question" ["reader", "table"] (spReadQuestion c) := by
  obtain ⟨f_Reader_take, fd_Reader_take, m_Reader_take, b_Reader_take, F_Reader_take⟩ := ok_Reader_take (P := P) (w := w) (base := base) T
  obtain ⟨f_read_grouping, fd_read_grouping, g_read_grouping, k_read_grouping, b_read_grouping, F_read_grouping⟩ := ok_read_grouping (P := P) (w := w) (base := base) T
  obtain ⟨f_Reader_sees, fd_Reader_sees, m_Reader_sees, b_Reader_sees, F_Reader_sees⟩ := ok_Reader_sees (P := P) (w := w) (base := base) T
  obtain ⟨f_read_number, fd_read_number, g_read_number, k_read_number, b_read_number, F_read_number⟩ := ok_read_number (P := P) (w := w) (base := base) T
  obtain ⟨f_Fault, fd_Fault, fi_Fault, ft_Fault, b_Fault, F_Fault⟩ := ok_Fault_init (P := P) (w := w) (base := base) T
  refine DefOk.makeX T.d_read_question s_read_question (fun vs H Q E h => ?_) fun f cdv A outer s H vs Q E hr h => ?_
  · obtain ⟨r, a, tb, ca, ra, qa, tt, l, rfl, hR, hT, hqa, hok, qe, q⟩ := h
    rfl
  · obtain ⟨r, a, tb, ca, ra, qa, tt, l, rfl, hR, hT, hqa, hok, qe, q⟩ := h
    refine ⟨_, (pss_cons (ps_set (i := 2) s_read_question.nd rfl (Or.inl rfl) (pe_meth (pv 0) T.k_Reader m_Reader_take F_Reader_take (hr.mono (by decide)) b_Reader_take .nil (passes_call (takes_of rfl rfl rfl rfl) (fun _ _ _ _ h => h)) (pa_cons pe_str pa_nil)))
      (pss_cons (ps_if (pt_cmpR op_eq (pe_callB call_len_seq (by rfl) T.n_len (by decide +kernel) (pa_cons (pe_fld (pv 1) rfl) pa_nil)) (pe_glob rfl T.c_MOST_QUESTIONS.choose_spec.1 T.c_MOST_QUESTIONS.choose_spec.2) (nomark _))
      (pss_one (ps_raise rfl (takes_of rfl rfl rfl rfl) (pmk_err T.k_Fault.1 fi_Fault ft_Fault F_Fault (hr.mono (by decide)) b_Fault pass0 rfl T.k_Fault.2.2.1 (pa_cons pe_int (pa_cons (pe_fld (pv 2) rfl) pa_nil)))))
      pss_nil)
      (pss_cons (ps_set (i := 3) s_read_question.nd rfl (Or.inl rfl) (pe_call F_read_grouping (hr.mono (by decide)) rfl g_read_grouping k_read_grouping b_read_grouping .nil (passes_call (takes_of rfl rfl rfl rfl) (fun _ _ _ _ h => h)) (pa_cons (pv 0) (pa_cons (pe_fld (pv 1) rfl) pa_nil))))
      (pss_cons (ps_set (i := 4) s_read_question.nd rfl (Or.inl rfl) pe_int)
      (pss_cons (ps_if (pt_val (pe_meth (pv 0) T.k_Reader m_Reader_sees F_Reader_sees (hr.mono (by decide)) b_Reader_sees .nil pass0 (pa_cons pe_str pa_nil)))
      (pss_cons (ps_expr (pe_meth (pv 0) T.k_Reader m_Reader_take F_Reader_take (hr.mono (by decide)) b_Reader_take .nil (passes_call (takes_of rfl rfl rfl rfl) (fun _ _ _ _ h => h)) (pa_cons pe_str pa_nil)))
      (pss_one (ps_set (i := 4) s_read_question.nd rfl (Or.inl rfl) (pe_call F_read_number (hr.mono (by decide)) rfl g_read_number k_read_number b_read_number .nil (passes_call (takes_of rfl rfl rfl rfl) (fun _ _ _ _ h => h)) (pa_cons (pv 0) (pa_cons pe_int (pa_cons (pe_glob rfl T.c_MOST_TIMES.choose_spec.1 T.c_MOST_TIMES.choose_spec.2) pa_nil)))))))
      pss_nil)
      (pss_cons (ps_expr (pe_meth (pv 0) T.k_Reader m_Reader_take F_Reader_take (hr.mono (by decide)) b_Reader_take .nil (passes_call (takes_of rfl rfl rfl rfl) (fun _ _ _ _ h => h)) (pa_cons pe_str pa_nil)))
      (pss_one (ps_expr (pe_bm PySem.F.plainAttrs_list PySem.F.slot_list_append PySem.F.type_list_append mt_append (pe_fld (pv 1) rfl) (pa_cons (pe_tup (pa_cons (pv 3) (pa_cons (pv 4) pa_nil))) pa_nil)))))))))), ?_⟩
    walk_at "rd"
    obtain ⟨n, t, l', rfl, hn, htl⟩ := hR.head
    obtain ⟨dx, us, ts, i, h1, h2, _⟩ := id hR
    refine ⟨r, dx, _, rfl, h1, rfl, ?_⟩
    walk_at "rd"
    refine ⟨r, a, n, t, l', _, rfl, hR, kask, fun hk => ?_, fun hk p e H1 k1 hR1 hp => ?_⟩
    · refine qe ⟨3, n⟩ ?_
      unfold askF takeWord
      rw [taken_no fun z => hk ((kind_word (Or.inr (Or.inr (Or.inl rfl)))).mpr z)]
      rfl
    have ht := (kind_word (Or.inr (Or.inr (Or.inl rfl)))).mp hk
    subst ht
    have eall : askF tt (⟨n, .name (word "ask")⟩ :: l') = if ASKS ≤ tt.asks.length then .error ⟨4, n⟩ else (askBody tt.cols l').map fun a => ({ tt with asks := tt.asks ++ [a.1] }, a.2) := by
      unfold askF takeWord
      rw [taken_yes, ← takeAsk_eq]
      rfl
    rw [eall] at qe q
    have hT1 := hT.on hR k1
    obtain ⟨⟨dt1, o1⟩, hc1, ⟨rvs1, hr1, ar1⟩, ⟨qvs1, hq1, aq1⟩, _⟩ := id hT1
    obtain ⟨dxp, hp⟩ := id hp
    walk_at "rd"
    refine rd_fldAt o1 T.k_Table T.a_Table_questions rfl ?_
    walk_at "rd"
    refine ⟨qa, _, rfl, Or.inl (SqL.of hq1), ?_⟩
    have hlen : qvs1.length = tt.asks.length := aq1.len
    rw [hlen]
    walk_at "rd"
    refine rd_ite (fun h4 => ?_) (fun h4 => ?_)
    · have h4 : tt.asks.length = 8 := by injection h4 with h4; omega
      walk_at "rd"
      refine rd_fldAt hp T.k_Token T.a_Token_place rfl ?_
      walk_at "rd"
      refine fault_done (n := 4) (m := n) (by decide) hn ?_
      exact ((qe ⟨4, n⟩ (if_pos (by rw [h4]; decide))).on k1).up fun b o hb h => ⟨by simp, h⟩
    have h4 : ¬ ASKS ≤ tt.asks.length := fun z => h4 (by have : ASKS = 8 := rfl; have := hok.q8; rw [show tt.asks.length = 8 by omega]; rfl)
    rw [if_neg h4] at qe q
    walk_at "rd"
    refine rd_fldAt o1 T.k_Table T.a_Table_columns rfl ?_
    walk_at "rd"
    refine ⟨r, a, ca, tt.cols, l', rfl, hR1, hc1, hok.c4, hok.wf, fun f hf => ?_, fun g l2 hg H2 k2 hR2 => ?_⟩
    · refine (qe f ?_).on k1
      unfold askBody; rw [hf]; rfl
    have hT2 := hT1.on hR1 k2
    have eb : askBody tt.cols l' = (timesF l2).bind fun k => (takeSign 59 k.2).map fun m => (⟨g, k.1⟩, m) := by unfold askBody; rw [hg]; rfl
    rw [eb] at qe q
    iterate 4 walk_at "rd1"
    refine rd_nm ?_
    dsimp only
    refine rd_seqJ (fun σ H' => ∃ (k : Nat) (l3 : Toks), σ = [some (.ref r), some (.ref tb), some (.ref p), some (.int (g : Nat)), some (.int (k : Nat))] ∧ But [r] H H' ∧ RdrAt c H' r a l3 ∧ TabAt c H' tb ca ra qa tt ∧ timesF l2 = .ok (k, l3)) ?_ (fun N hN => ?_)
    · rintro σ H3 ⟨k, l3, rfl, k3, hR3, hT3, hk3⟩
      obtain ⟨n3, t3, l4, rfl, hn3, htl3⟩ := hR3.head
      obtain ⟨dx3, _, _, _, g1, ga, _⟩ := id hR3
      obtain ⟨⟨dt3, o3⟩, hc3, ⟨rvs3, hr3, ar3⟩, ⟨qvs3, hq3, aq3⟩, hne⟩ := id hT3
      rw [hk3] at qe q
      have e3 : ∀ k : Nat × Toks, (Except.bind (.ok k : Except Fault (Nat × Toks)) fun k => (takeSign 59 k.2).map fun m => ((⟨g, k.1⟩ : Ask), m)) = (takeSign 59 k.2).map fun m => ((⟨g, k.1⟩ : Ask), m) := fun _ => rfl
      rw [e3] at qe q
      walk_at "rd"
      refine ⟨r, dx3, _, rfl, g1, rfl, ?_⟩
      walk_at "rd"
      refine ⟨r, a, n3, t3, l4, ⟨#[59]⟩, by rw [← ksemi]; rfl, hR3, one_ne 59, fun h => ?_, fun h p4 e4 H4 k4 hR4 _ => ?_⟩
      · refine (qe ⟨3, n3⟩ ?_).on k3
        have : takeSign 59 (⟨n3, t3⟩ :: l4) = .error ⟨3, n3⟩ := taken_no fun z => h (kind_sign.mpr z)
        rw [this]; rfl
      have ht := kind_sign.mp h
      subst ht
      have hT4 := hT3.on hR3 k4
      obtain ⟨⟨dt4, o4⟩, hc4, ⟨rvs4, hr4, ar4⟩, ⟨qvs4, hq4, aq4⟩, _⟩ := id hT4
      walk_at "rd"
      refine rd_fldAt o4 T.k_Table T.a_Table_questions rfl ?_
      refine ⟨Or.inl ⟨rfl, _, SqL.of hq4⟩, ?_⟩
      walk_at "rd"
      refine ⟨(show 2 ≤ sizeLine by decide), fun p5 hp5 => ?_⟩
      walk_at "rd"
      have hq5 : upd H4 p5 (.tup [.int (g : Nat), .int (k : Nat)]) qa = some (.lst qvs4) := by rw [upd_ne (ne_of_none hq4 hp5)]; exact hq4
      have hlen4 : qvs4.length = tt.asks.length := aq4.len
      have hsz : sizeLine = 16777216 := rfl
      refine ⟨qa, _, _, rfl, rfl, hq5, by have := hok.q8; omega, ?_⟩
      have hqr : qa ≠ r := hR4.notL hq4
      refine q { tt with asks := tt.asks ++ [⟨g, k⟩] } l4 ?_ _ (fun b o hb hh => ?_) ?_ ?_
      · have : takeSign 59 (⟨n3, .sign 59⟩ :: l4) = .ok l4 := taken_yes
        rw [this]; rfl
      · have hbr : b ∉ [r] := fun z => hb (by rw [List.mem_singleton.mp z]; simp)
        have hbq : b ≠ qa := fun z => hb (by rw [z]; simp)
        have h4 := k4 b o hbr (k3 b o hbr hh)
        rw [upd2_ne (ne_of_none h4 hp5) hbq]; exact h4
      · exact (hR4.ex (Ex.new hp5)).updL hq5 hqa
      · exact hT4.ask hp5 ⟨g, k⟩ hq4
    · have hT2' := hT2
      obtain ⟨n3, t3, l4, rfl, hn3, htl3⟩ := hR2.head
      obtain ⟨dx3, _, _, _, g1, ga, _⟩ := id hR2
      walk_at "rd"
      refine ⟨r, dx3, _, rfl, g1, rfl, ?_⟩
      walk_at "rd"
      refine ⟨r, a, n3, t3, l4, _, rfl, hR2, ?_⟩
      walk_at "rd"
      refine rd_ite (fun hk3 => ?_) (fun hk3 => ?_)
      · have ht := (kind_word (Or.inr (Or.inr (Or.inr rfl)))).mp hk3
        subst ht
        have e1 : timesF (⟨n3, .name (word "times")⟩ :: l4) = numF 1 99 l4 := if_pos (next_iff.mpr rfl)
        rw [e1] at qe q
        walk_at "rd"
        refine ⟨r, dx3, _, rfl, g1, rfl, ?_⟩
        walk_at "rd"
        refine ⟨r, a, n3, _, l4, _, rfl, hR2, ktimes, fun h => absurd hk3 h, fun _ p4 e4 H4 k4 hR4 _ => ?_⟩
        walk_at "rd"
        refine ⟨r, a, 1, 99, l4, rfl, hR4, fun f hf => ?_, fun k5 l5 hk5 H5 kk5 hR5 => ?_⟩
        · refine (qe f ?_).on (k1.trans (k2.trans k4))
          rw [hf]; rfl
        walk_at "rd"
        refine hN _ _ ⟨k5, l5, rfl, k1.trans (k2.trans (k4.trans kk5)), hR5, (hT2.on hR2 k4).on hR4 kk5, ?_⟩
        rw [e1]; exact hk5
      · walk_at "rd"
        refine hN _ _ ⟨1, _, rfl, k1.trans k2, hR2, hT2, ?_⟩
        exact if_neg (fun z => hk3 (by rw [(next_iff.mp z)]; exact (kind_word (Or.inr (Or.inr (Or.inr rfl)))).mpr rfl))
/-! ### a row -/
def valuesF (w : Nat) (l : Toks) : Except Fault (List Nat × Toks) := takeValues w [] l
theorem takeNat_num (hi : Nat) (l : Toks) : takeNat hi l = numF 0 hi l := (numF_zero hi l).symm
theorem values_one (n : Nat) (l : Toks) : takeValues (n + 1) [] l = (numF 0 9 l).bind fun x => takeValues n [x.1] x.2 := by
  rw [takeValues, ← takeNat_num]
  rfl
theorem values_more (n : Nat) (v : Nat) (vs : List Nat) (l : Toks) : takeValues (n + 1) (v :: vs) l = (takeSign 44 l).bind fun r => (numF 0 9 r).bind fun x => takeValues n (v :: vs ++ [x.1]) x.2 := by
  rw [takeValues]
  simp only [← takeNat_num]
  rfl
def rowLineF (t : Table) (l : Toks) : Except Fault (Table × Toks) := (takeWord "row" l).bind fun r => if ROWS ≤ t.rows.length then .error ⟨4, here l⟩ else (rowF t.cols.length r).map fun x => ({ t with rows := t.rows ++ [x.1] }, x.2)
theorem krow : (Str.ofString "row") ≠ Str.ofString "end" := by decide +kernel
def spReadRow (c : Cs) : Sp := fun vs H Q E => ∃ (r a tb ca ra qa : Addr) (t : Table) (l : Toks), vs = [.ref r, .ref tb] ∧ RdrAt c H r a l ∧ TabAt c H tb ca ra qa t ∧ ra ≠ a ∧ TOk t ∧
  (∀ f, rowLineF t l = .error f → ErrOut c E [r] f H) ∧ ∀ t' l', rowLineF t l = .ok (t', l') → ∀ H', But [r, ra] H H' → RdrAt c H' r a l' → TabAt c H' tb ca ra qa t' → Q .non H'
theorem ok_read_row (T : Txt K mg c) : DefOk P w K mg base (L2.CX P w) 6 "read_row" ["reader", "table"] (spReadRow c) := by
  obtain ⟨f_Reader_take, fd_Reader_take, m_Reader_take, b_Reader_take, F_Reader_take⟩ := ok_Reader_take (P := P) (w := w) (base := base) T
  obtain ⟨f_read_number, fd_read_number, g_read_number, k_read_number, b_read_number, F_read_number⟩ := ok_read_number (P := P) (w := w) (base := base) T
  obtain ⟨f_read_amount, fd_read_amount, g_read_amount, k_read_amount, b_read_amount, F_read_amount⟩ := ok_read_amount (P := P) (w := w) (base := base) T
  obtain ⟨f_Fault, fd_Fault, fi_Fault, ft_Fault, b_Fault, F_Fault⟩ := ok_Fault_init (P := P) (w := w) (base := base) T
  refine DefOk.makeX T.d_read_row s_read_row (fun vs H Q E h => ?_) fun f cdv A outer s H vs Q E hr h => ?_
  · obtain ⟨r, a, tb, ca, ra, qa, tt, l, rfl, hR, hT, hra, hok, qe, q⟩ := h
    rfl
  · obtain ⟨r, a, tb, ca, ra, qa, tt, l, rfl, hR, hT, hra, hok, qe, q⟩ := h
    refine ⟨_, (pss_cons (ps_set (i := 2) s_read_row.nd rfl (Or.inl rfl) (pe_meth (pv 0) T.k_Reader m_Reader_take F_Reader_take (hr.mono (by decide)) b_Reader_take .nil (passes_call (takes_of rfl rfl rfl rfl) (fun _ _ _ _ h => h)) (pa_cons pe_str pa_nil)))
      (pss_cons (ps_if (pt_cmpR op_eq (pe_callB call_len_seq (by rfl) T.n_len (by decide +kernel) (pa_cons (pe_fld (pv 1) rfl) pa_nil)) (pe_glob rfl T.c_MOST_ROWS.choose_spec.1 T.c_MOST_ROWS.choose_spec.2) (nomark _))
      (pss_one (ps_raise rfl (takes_of rfl rfl rfl rfl) (pmk_err T.k_Fault.1 fi_Fault ft_Fault F_Fault (hr.mono (by decide)) b_Fault pass0 rfl T.k_Fault.2.2.1 (pa_cons pe_int (pa_cons (pe_fld (pv 2) rfl) pa_nil)))))
      pss_nil)
      (pss_cons (ps_set (i := 3) s_read_row.nd rfl (Or.inl rfl) (pe_lst (pa_cons (pe_call F_read_number (hr.mono (by decide)) rfl g_read_number k_read_number b_read_number .nil (passes_call (takes_of rfl rfl rfl rfl) (fun _ _ _ _ h => h)) (pa_cons (pv 0) (pa_cons pe_int (pa_cons (pe_glob rfl T.c_GREATEST_VALUE.choose_spec.1 T.c_GREATEST_VALUE.choose_spec.2) pa_nil)))) pa_nil)))
      (pss_cons (ps_while (passes_of rfl) (pt_cmpR op_lt (pe_callB call_len_seq (by rfl) T.n_len (by decide +kernel) (pa_cons (pv 3) pa_nil)) (pe_callB call_len_seq (by rfl) T.n_len (by decide +kernel) (pa_cons (pe_fld (pv 1) rfl) pa_nil)) (nomark _))
      (pss_cons (ps_expr (pe_meth (pv 0) T.k_Reader m_Reader_take F_Reader_take (hr.mono (by decide)) b_Reader_take .nil (passes_call (takes_of rfl rfl rfl rfl) (fun _ _ _ _ h => h)) (pa_cons pe_str pa_nil)))
      (pss_one (ps_expr (pe_bm PySem.F.plainAttrs_list PySem.F.slot_list_append PySem.F.type_list_append mt_append (pv 3) (pa_cons (pe_call F_read_number (hr.mono (by decide)) rfl g_read_number k_read_number b_read_number .nil (passes_call (takes_of rfl rfl rfl rfl) (fun _ _ _ _ h => h)) (pa_cons (pv 0) (pa_cons pe_int (pa_cons (pe_glob rfl T.c_GREATEST_VALUE.choose_spec.1 T.c_GREATEST_VALUE.choose_spec.2) pa_nil)))) pa_nil))))))
      (pss_cons (ps_expr (pe_meth (pv 0) T.k_Reader m_Reader_take F_Reader_take (hr.mono (by decide)) b_Reader_take .nil (passes_call (takes_of rfl rfl rfl rfl) (fun _ _ _ _ h => h)) (pa_cons pe_str pa_nil)))
      (pss_cons (ps_set (i := 4) s_read_row.nd rfl (Or.inl rfl) (pe_call F_read_amount (hr.mono (by decide)) rfl g_read_amount k_read_amount b_read_amount .nil (passes_call (takes_of rfl rfl rfl rfl) (fun _ _ _ _ h => h)) (pa_cons (pv 0) pa_nil)))
      (pss_cons (ps_expr (pe_meth (pv 0) T.k_Reader m_Reader_take F_Reader_take (hr.mono (by decide)) b_Reader_take .nil (passes_call (takes_of rfl rfl rfl rfl) (fun _ _ _ _ h => h)) (pa_cons pe_str pa_nil)))
      (pss_one (ps_expr (pe_bm PySem.F.plainAttrs_list PySem.F.slot_list_append PySem.F.type_list_append mt_append (pe_fld (pv 1) rfl) (pa_cons (pe_tup (pa_cons (pe_callTy call_tuple_of (by rfl) T.n_tuple (by decide +kernel) (pa_cons (pv 3) pa_nil)) (pa_cons (pv 4) pa_nil))) pa_nil))))))))))), ?_⟩
    walk_at "rd"
    have hsz : sizeLine = 16777216 := rfl
    obtain ⟨n, t, l', rfl, hn, htl⟩ := hR.head
    obtain ⟨dx, us, ts, i, h1, h2, _⟩ := id hR
    refine ⟨r, dx, _, rfl, h1, rfl, ?_⟩
    walk_at "rd"
    refine ⟨r, a, n, t, l', _, rfl, hR, krow, fun hk => ?_, fun hk p e H1 k1 hR1 hp => ?_⟩
    · refine qe ⟨3, n⟩ ?_
      unfold rowLineF takeWord
      rw [taken_no fun z => hk ((kind_word (Or.inr (Or.inl rfl))).mpr z)]
      rfl
    have ht := (kind_word (Or.inr (Or.inl rfl))).mp hk
    subst ht
    have eall : rowLineF tt (⟨n, .name (word "row")⟩ :: l') = if ROWS ≤ tt.rows.length then .error ⟨4, n⟩ else (rowF tt.cols.length l').map fun x => ({ tt with rows := tt.rows ++ [x.1] }, x.2) := by
      unfold rowLineF takeWord
      rw [taken_yes]
      rfl
    rw [eall] at qe q
    have hT1 := hT.on hR k1
    obtain ⟨⟨dt1, o1⟩, hc1, ⟨rvs1, hr1, ar1⟩, ⟨qvs1, hq1, aq1⟩, _⟩ := id hT1
    obtain ⟨dxp, hp⟩ := id hp
    walk_at "rd"
    refine rd_fldAt o1 T.k_Table T.a_Table_rows rfl ?_
    walk_at "rd"
    refine ⟨ra, _, rfl, Or.inl (SqL.of hr1), ?_⟩
    have hlen : rvs1.length = tt.rows.length := ar1.len
    rw [hlen]
    walk_at "rd"
    refine rd_ite (fun h4 => ?_) (fun h4 => ?_)
    · have h4 : tt.rows.length = 16 := by injection h4 with h4; omega
      walk_at "rd"
      refine rd_fldAt hp T.k_Token T.a_Token_place rfl ?_
      walk_at "rd"
      refine fault_done (n := 4) (m := n) (by decide) hn ?_
      exact ((qe ⟨4, n⟩ (if_pos (by rw [h4]; decide))).on k1).up fun b o hb h => ⟨by simp, h⟩
    have h4 : ¬ ROWS ≤ tt.rows.length := fun z => h4 (by have : ROWS = 16 := rfl; have := hok.r16; rw [show tt.rows.length = 16 by omega]; rfl)
    rw [if_neg h4] at qe q
    obtain ⟨w', hw⟩ : ∃ w', tt.cols.length = w' + 1 := ⟨tt.cols.length - 1, by have := hok.c1; omega⟩
    walk_at "rd"
    rw [hw] at qe q
    have er : rowF (w' + 1) l' = (takeValues (w' + 1) [] l').bind fun v => (takeSign 58 v.2).bind fun r => (takeInt r).bind fun x => (takeSign 59 x.2).map fun m => (⟨v.1, x.1⟩, m) := rfl
    rw [er] at qe q
    refine ⟨r, a, 0, 9, l', rfl, hR1, fun f hf => ?_, fun v l2 hv H2 k2 hR2 => ?_⟩
    · refine (qe f ?_).on k1
      rw [values_one, hf]; rfl
    walk_at "rd"
    refine ⟨(show 1 ≤ sizeLine by decide), fun pv hpv => ?_⟩
    walk_at "rd"
    have hpvr : pv ≠ r := hR2.notN hpv
    have hpva : pv ≠ a := hR2.notA hpv
    have k12 := k1.trans k2
    have hpvH : H pv = none := k12.none (by simpa using hpvr) hpv
    have ev : takeValues (w' + 1) [] l' = takeValues w' [v] l2 := by rw [values_one, hv]; rfl
    refine ⟨fun μ σ H' => ∃ (vs : List Nat) (l3 : Toks), σ = [some (.ref r), some (.ref tb), some (.ref p), some (.ref pv), none] ∧ But [r] H H' ∧ RdrAt c H' r a l3 ∧ H' pv = some (.lst (intVs vs)) ∧ vs ≠ [] ∧ vs.length ≤ w' + 1 ∧ μ = l3.length ∧ takeValues (w' + 1) [] l' = takeValues (w' + 1 - vs.length) vs l3,
      ⟨_, [v], l2, rfl, fun x o hx h => ?_, hR2.ex (Ex.new hpv), upd_same, by simp, by simp, rfl, by rw [ev]; rfl⟩, ?_⟩
    · rw [upd_ne (ne_of_none (k12 x o hx h) hpv)]
      exact k12 x o hx h
    rintro μ σ H3 ⟨vs, l3, rfl, k3, hR3, hv3, hvn, hvl, rfl, heq⟩
    obtain ⟨n3, t3, l4, rfl, hn3, htl3⟩ := hR3.head
    obtain ⟨dx3, _, _, _, g1, _⟩ := id hR3
    have hT3 := hT.on hR k3
    obtain ⟨⟨dt3, o3⟩, hc3, ⟨rvs3, hr3, ar3⟩, ⟨qvs3, hq3, aq3⟩, _⟩ := id hT3
    have hlv : (intVs vs).length = vs.length := by unfold intVs; rw [List.length_map]
    have hlc : (nameVs tt.cols).length = w' + 1 := by unfold nameVs; rw [List.length_map, hw]
    walk_at "rd"
    refine ⟨pv, _, rfl, Or.inl (SqL.of hv3), ?_⟩
    walk_at "rd"
    refine rd_fldAt o3 T.k_Table T.a_Table_columns rfl ?_
    walk_at "rd"
    refine ⟨ca, _, rfl, Or.inl (SqL.of hc3), ?_⟩
    rw [hlv, hlc]
    walk_at "rd"
    refine rd_ite (fun hlt => ?_) (fun hlt => ?_)
    · have hlt : vs.length < w' + 1 := by omega
      obtain ⟨v0, vr, hvs⟩ : ∃ v0 vr, vs = v0 :: vr := by
        cases vs with
        | nil => exact absurd rfl hvn
        | cons v0 vr => exact ⟨v0, vr, rfl⟩
      obtain ⟨d, hd⟩ : ∃ d, w' + 1 - vs.length = d + 1 := ⟨w' - vs.length, by omega⟩
      rw [hd, hvs, values_more, ← hvs] at heq
      refine ⟨_, fun _ _ h => h, ?_⟩
      walk_at "rd"
      refine ⟨r, dx3, _, rfl, g1, rfl, ?_⟩
      walk_at "rd"
      refine ⟨r, a, n3, _, l4, ⟨#[44]⟩, by rw [← kcomma]; rfl, hR3, one_ne 44, fun h => ?_, fun h p4 e4 H4 k4 hR4 _ => ?_⟩
      · refine (qe ⟨3, n3⟩ ?_).on k3
        have : takeSign 44 (⟨n3, t3⟩ :: l4) = .error ⟨3, n3⟩ := taken_no fun z => h (kind_sign.mpr z)
        rw [heq, this]; rfl
      have ht := kind_sign.mp h
      subst ht
      have e4 : takeSign 44 (⟨n3, .sign 44⟩ :: l4) = .ok l4 := taken_yes
      rw [e4] at heq
      have hv4 : H4 pv = some (.lst (intVs vs)) := k4 _ _ (by simpa using hpvr) hv3
      walk_at "rd"
      refine ⟨Or.inl ⟨rfl, _, SqL.of hv4⟩, ?_⟩
      walk_at "rd"
      refine ⟨r, a, 0, 9, l4, rfl, hR4, fun f hf => ?_, fun v5 l5 hv5 H5 k5 hR5 => ?_⟩
      · refine (qe f ?_).on (k3.trans k4)
        rw [heq]
        simp only [ebo, hf, ebe, eme]
      have hp5 : H5 pv = some (.lst (intVs vs)) := k5 _ _ (by simpa using hpvr) hv4
      walk_at "rd"
      refine ⟨pv, _, _, rfl, rfl, hp5, by have := hok.c4; omega, ?_⟩
      walk_at "rd"
      have hl5 : l5.length < l4.length := by
        rw [numF_zero] at hv5
        exact takeNat_rest hv5
      refine ⟨l5.length, by rw [List.length_cons]; omega, vs ++ [v5], l5, rfl, fun x o hx h => ?_, hR5.updL hp5 hpva, ?_, by simp, by rw [List.length_append]; show vs.length + 1 ≤ _; omega, rfl, ?_⟩
      · have hne : x ≠ pv := fun z => by rw [z, hpvH] at h; cases h
        rw [upd_ne hne]
        exact k5 _ _ hx (k4 _ _ hx (k3 _ _ hx h))
      · rw [upd_same]; unfold intVs; rw [List.map_append]; rfl
      · rw [heq, List.length_append, show w' + 1 - (vs.length + [v5].length) = d by rw [List.length_singleton]; omega]
        show ((numF 0 9 l4).bind _) = _
        rw [hv5]; rfl
    · have hle : vs.length = w' + 1 := by omega
      rw [hle, Nat.sub_self] at heq
      have heq : takeValues (w' + 1) [] l' = .ok (vs, ⟨n3, t3⟩ :: l4) := heq
      rw [heq] at qe q
      walk_at "rd"
      rw [ebo] at qe q
      refine ⟨r, dx3, _, rfl, g1, rfl, ?_⟩
      walk_at "rd"
      refine ⟨r, a, n3, t3, l4, ⟨#[58]⟩, by rw [← kcolon]; rfl, hR3, one_ne 58, fun h => ?_, fun h p4 e4 H4 k4 hR4 _ => ?_⟩
      · refine (qe ⟨3, n3⟩ ?_).on k3
        have : takeSign 58 (⟨n3, t3⟩ :: l4) = .error ⟨3, n3⟩ := taken_no fun z => h (kind_sign.mpr z)
        simp only [this, ebo, ebe, eme]
      have ht := kind_sign.mp h
      subst ht
      have e4 : takeSign 58 (⟨n3, .sign 58⟩ :: l4) = .ok l4 := taken_yes
      simp only [e4, ebo] at qe q
      have hv4 : H4 pv = some (.lst (intVs vs)) := k4 _ _ (by simpa using hpvr) hv3
      walk_at "rd"
      refine ⟨r, a, l4, rfl, hR4, fun f hf => ?_, fun m5 l5 hm5 H5 k5 hR5 => ?_⟩
      · refine (qe f ?_).on (k3.trans k4)
        simp only [hf, ebe, eme]
      simp only [hm5, ebo] at qe q
      have hv5 : H5 pv = some (.lst (intVs vs)) := k5 _ _ (by simpa using hpvr) hv4
      obtain ⟨n6, t6, l6, rfl, hn6, htl6⟩ := hR5.head
      obtain ⟨dx6, _, _, _, g6, _⟩ := id hR5
      walk_at "rd"
      refine ⟨r, dx6, _, rfl, g6, rfl, ?_⟩
      walk_at "rd"
      refine ⟨r, a, n6, t6, l6, ⟨#[59]⟩, by rw [← ksemi]; rfl, hR5, one_ne 59, fun h => ?_, fun h p7 e7 H7 k7 hR7 _ => ?_⟩
      · refine (qe ⟨3, n6⟩ ?_).on (k3.trans (k4.trans k5))
        have : takeSign 59 (⟨n6, t6⟩ :: l6) = .error ⟨3, n6⟩ := taken_no fun z => h (kind_sign.mpr z)
        simp only [this, eme]
      have ht := kind_sign.mp h
      subst ht
      have e7 : takeSign 59 (⟨n6, .sign 59⟩ :: l6) = .ok l6 := taken_yes
      simp only [e7, emo] at qe q
      have hv7 : H7 pv = some (.lst (intVs vs)) := k7 _ _ (by simpa using hpvr) hv5
      have k37 := k3.trans (k4.trans (k5.trans k7))
      have hT7 := hT.on hR k37
      obtain ⟨⟨dt7, o7⟩, hc7, ⟨rvs7, hr7, ar7⟩, ⟨qvs7, hq7, aq7⟩, _⟩ := id hT7
      walk_at "rd"
      refine rd_fldAt o7 T.k_Table T.a_Table_rows rfl ?_
      refine ⟨Or.inl ⟨rfl, _, SqL.of hr7⟩, ?_⟩
      walk_at "rd"
      refine ⟨pv, _, rfl, Or.inl ⟨SqL.of hv7, fun vt hvt => ?_⟩⟩
      walk_at "rd"
      refine ⟨(show 2 ≤ sizeLine by decide), fun p8 hp8 => ?_⟩
      walk_at "rd"
      have x8 : Ex H7 (upd H7 vt (.tup (intVs vs))) := Ex.new hvt
      have hr8 : upd (upd H7 vt (.tup (intVs vs))) p8 (.tup [.ref vt, .int m5]) ra = some (.lst rvs7) := Ex.new hp8 _ _ (x8 _ _ hr7)
      have hlen7 : rvs7.length = tt.rows.length := ar7.len
      refine ⟨ra, _, _, rfl, rfl, hr8, by have := hok.r16; omega, ?_⟩
      have hT8 : TabAt c (upd H7 vt (.tup (intVs vs))) tb ca ra qa tt := hT7.stay (S := []) (fun b o _ e => x8 b o e) (by simp) (by simp) (by simp) (by simp) (by simp)
      refine q { tt with rows := tt.rows ++ [⟨vs, m5⟩] } l6 rfl _ (fun b o hb hh => ?_) ?_ ?_
      · have hbr : b ∉ [r] := fun z => hb (by rw [List.mem_singleton.mp z]; simp)
        have hbq : b ≠ ra := fun z => hb (by rw [z]; simp)
        have h4 := x8 _ _ (k37 b o hbr hh)
        rw [upd2_ne (ne_of_none h4 hp8) hbq]; exact h4
      · exact ((hR7.ex x8).ex (Ex.new hp8)).updL hr8 hra
      · exact hT8.row hp8 ⟨vs, m5⟩ (x8 _ _ hr7) upd_same
/-! ### what is read keeps its bounds -/
end
end Bk
end
section
local macro_rules | `(tactic| walk_at "rd1") => `(tactic| first
  | with_reducible refine Bk.rd_seq ?_
  | ((with_reducible refine' Bk.rd_var ?k1 ?_); (case k1 => exact rfl))
  | with_reducible refine Bk.rd_c ?_
  | with_reducible refine Bk.rd_op ?_
  | with_reducible refine Bk.rd_I0 ?_
  | ((with_reducible refine' Bk.rd_I ?k1 ?_); (case k1 => first | assumption | omega))
  | with_reducible refine Bk.rd_test ?_
  | with_reducible refine Bk.rd_tB ?_
  | with_reducible refine Bk.rd_bl ?_
  | ((with_reducible refine' Bk.rd_eq ?k1 ?_); (case k1 => exact rfl))
  | ((with_reducible refine' Bk.rd_ne ?k1 ?_); (case k1 => exact rfl))
  | with_reducible refine Bk.rd_and ?_
  | with_reducible refine Bk.rd_or ?_
  | with_reducible refine Bk.rd_not ?_
  | with_reducible refine Bk.rd_andV ?_
  | with_reducible refine Bk.rd_isN ?_
  | with_reducible refine Bk.rd_notN ?_
  | with_reducible refine Bk.rd_asg ?_
  | with_reducible refine Bk.rd_nm ?_
  | with_reducible refine Bk.rd_ret ?_
  | with_reducible refine Bk.rd_drop ?_
  | with_reducible refine Bk.rd_if ?_
  | with_reducible refine Bk.rd_ifE ?_
  | ((with_reducible refine' Bk.rd_aug ?k1 ?_); (case k1 => exact rfl))
  | with_reducible refine Bk.rd_ipI ?_
  | with_reducible refine Bk.rd_nil ?_
  | with_reducible refine Bk.rd_cons ?_
  | with_reducible refine Bk.rd_CB ?_
  | with_reducible refine Bk.rd_call ?_
  | with_reducible refine Bk.rd_callS ?_
  | with_reducible refine Bk.rd_un ?_
  | with_reducible refine Bk.rd_U ?_
  | with_reducible refine Bk.rd_fld ?_
  | with_reducible refine Bk.rd_sfld ?_
  | with_reducible refine Bk.rd_tup ?_
  | with_reducible refine Bk.rd_lst ?_
  | with_reducible refine Bk.rd_next ?_
  | with_reducible refine Bk.rd_brk ?_
  | with_reducible refine Bk.rd_BM ?_
  | with_reducible refine Bk.rd_BM0 ?_
  | with_reducible refine Bk.rd_for ?_
  | with_reducible refine Bk.rd_iStr ?_
  | with_reducible refine Bk.rd_fldaug ?_
  | with_reducible refine Bk.rd_mkO ?_
  | with_reducible refine Bk.rd_js ?_
  | with_reducible refine Bk.rd_js0 ?_
  | with_reducible refine Bk.rd_fmt ?_
  | with_reducible refine Bk.rd_erI ?_
  | with_reducible refine Bk.rd_erSet ?_
  | with_reducible refine Bk.rd_lc ?_
  | with_reducible refine Bk.rd_yes' ?_
  | with_reducible refine Bk.rd_iList ?_
  | with_reducible refine Bk.rd_iTup ?_
  | with_reducible refine Bk.rd_iRng1 ?_
  | with_reducible refine Bk.rd_iEnum ?_
  | with_reducible refine Bk.rd_iZip ?_
  | with_reducible refine Bk.rd_iEnumT ?_
  | with_reducible refine Bk.rd_M1 ?_
  | with_reducible refine Bk.rd_dget2 ?_
  | with_reducible refine Bk.rd_dput ?_
  | with_reducible refine Bk.rd_sl ?_
  | with_reducible refine Bk.rd_noPart ?_
  | with_reducible refine Bk.rd_part ?_
  | with_reducible refine Bk.rd_int ?_
  | with_reducible refine Bk.rd_str ?_
  | with_reducible refine Bk.rd_isstr ?_
  | with_reducible refine Bk.rd_make ?_
  | with_reducible refine Bk.rd_meth ?_
  | with_reducible refine L2.iteT ?_
  | with_reducible refine L2.iteF ?_)
local macro_rules | `(tactic| walk_at "rd") => `(tactic| repeat (walk_at "rd1"))
local macro_rules | `(tactic| walk_at "few") => `(tactic| first | exact (show (0 : Nat) < 1000 by decide) | exact (show (1 : Nat) < 1000 by decide) | exact (show (2 : Nat) < 1000 by decide) | exact (show (3 : Nat) < 1000 by decide) | exact (show (4 : Nat) < 1000 by decide) | exact (show (5 : Nat) < 1000 by decide) | exact (show (6 : Nat) < 1000 by decide) | exact (show (7 : Nat) < 1000 by decide))

/-! tables read: the whole text -/
namespace Bk
open PySem hiding Tok
open PySem.Spec hiding Row
open PyProof.Rows L2
open VamvsBase (isBlank isDigit isLetter token lex Tok PTok Toks numberOf decimal SIGNS RESERVED word tokEq NAME NUMBER next nextWord taken takeWord takeSign takeName wrong here PName)
open Vamvsa (takeColumns takeNat takeValues takeInt takeAsked takeTimes takeAsk takeLines Table Row Ask COLUMNS ROWS ASKS VALUE SIZE TIMES)
section
variable {P : Program} {w : World} {K : PySem.W.Frag} {mg : Str → Option Value} {base : Heap} {c : Cs}
/-! ### what is read keeps its bounds -/
theorem numF_le {lo hi : Nat} {l : Toks} {x : Nat × Toks} (h : numF lo hi l = .ok x) : lo ≤ x.1 ∧ x.1 ≤ hi := by
  cases l with
  | nil => cases h
  | cons a r =>
    obtain ⟨q, t⟩ := a
    cases t with
    | num n =>
      have h : (if n < lo ∨ hi < n then (Except.error ⟨7, q⟩ : Except Fault (Nat × Toks)) else .ok (n, r)) = .ok x := h
      split at h
      · cases h
      · injection h with h
        subst h
        show lo ≤ n ∧ n ≤ hi
        omega
    | _ => cases h
theorem values_le : ∀ (n : Nat) (vs : List Nat) (l : Toks) (x : List Nat × Toks), takeValues n vs l = .ok x → (∀ v ∈ vs, v ≤ 9) → x.1.length = vs.length + n ∧ ∀ v ∈ x.1, v ≤ 9
  | 0, vs, l, x, h, hv => by
    injection h with h
    subst h
    exact ⟨rfl, hv⟩
  | n + 1, vs, l, x, h, hv => by
    rw [takeValues] at h
    cases h1 : (if vs.isEmpty = true then (Except.ok l : Except VamvsBase.Fault Toks) else takeSign 44 l) with
    | error e => rw [h1] at h; cases h
    | ok r =>
      rw [h1, ebo, takeNat_num] at h
      cases h2 : numF 0 VALUE r with
      | error e => rw [h2] at h; cases h
      | ok y =>
        rw [h2, ebo] at h
        obtain ⟨e1, e2⟩ := values_le n _ _ _ h (fun v hm => by
          rcases List.mem_append.mp hm with z | z
          · exact hv v z
          · rw [List.mem_singleton.mp z]; exact (numF_le h2).2)
        refine ⟨?_, e2⟩
        rw [e1, List.length_append, List.length_singleton]
        omega
theorem int_le {l : Toks} {x : Int × Toks} (h : takeInt l = .ok x) : x.1.natAbs ≤ 1000 := by
  unfold takeInt at h
  simp only [takeNat_num] at h
  cases h1 : numF 0 SIZE (if next (.sign 45) l = true then l.drop 1 else l) with
  | error e => rw [h1] at h; cases h
  | ok y =>
    rw [h1, emo] at h
    injection h with h
    subst h
    have := (numF_le h1).2
    have e : SIZE = 1000 := rfl
    show (if next (.sign 45) l = true then -(y.1 : Int) else (y.1 : Int)).natAbs ≤ 1000
    split <;> omega
theorem rowF_ok {w : Nat} {l : Toks} {x : Row × Toks} (h : rowF w l = .ok x) : x.1.vs.length = w ∧ (∀ v ∈ x.1.vs, v ≤ 9) ∧ x.1.m.natAbs ≤ 1000 := by
  unfold rowF at h
  cases h1 : takeValues w [] l with
  | error e => rw [h1] at h; cases h
  | ok v =>
    rw [h1, ebo] at h
    cases h2 : takeSign 58 v.2 with
    | error e => rw [h2] at h; cases h
    | ok r =>
      rw [h2, ebo] at h
      cases h3 : takeInt r with
      | error e => rw [h3] at h; cases h
      | ok y =>
        rw [h3, ebo] at h
        cases h4 : takeSign 59 y.2 with
        | error e => rw [h4] at h; cases h
        | ok m =>
          rw [h4, emo] at h
          injection h with h
          subst h
          obtain ⟨e1, e2⟩ := values_le _ _ _ _ h1 (by simp)
          exact ⟨by rw [e1]; simp, e2, int_le h3⟩
theorem bit_lt {g i L : Nat} (hg : g < 2 ^ L) (hi : i < L) (h : ¬ g / 2 ^ i % 2 = 1) : g + 2 ^ i < 2 ^ L := by
  obtain ⟨q, hq⟩ : ∃ q, g / 2 ^ i = 2 * q := ⟨g / 2 ^ i / 2, by omega⟩
  have h1 : g < 2 ^ i * (g / 2 ^ i + 1) := Nat.lt_mul_div_succ g (Nat.two_pow_pos i)
  have h2 : q = g / 2 ^ (i + 1) := by rw [Nat.pow_succ, ← Nat.div_div_eq_div_mul, hq]; omega
  have e : 2 ^ (i + 1) * 2 ^ (L - (i + 1)) = 2 ^ L := by rw [← Nat.pow_add]; congr 1; omega
  have h3 : q < 2 ^ (L - (i + 1)) := by
    rw [h2]
    exact Nat.div_lt_of_lt_mul (by rw [e]; exact hg)
  have h4 : 2 ^ (i + 1) * (q + 1) ≤ 2 ^ L := by
    rw [← e]
    exact Nat.mul_le_mul_left _ h3
  have h5 : 2 ^ (i + 1) * (q + 1) = 2 ^ i * (2 * q + 1) + 2 ^ i := by
    rw [Nat.pow_succ]
    generalize 2 ^ i = z
    rw [Nat.mul_assoc, Nat.mul_add, Nat.mul_add, Nat.mul_add]
    omega
  rw [hq] at h1
  omega
theorem asked_lt (cs : List (List UInt8)) : ∀ (n g : Nat) (l : Toks) (x : Nat × Toks), takeAsked cs n g l = .ok x → g < 2 ^ cs.length → x.1 < 2 ^ cs.length
  | 0, _, _, _, h, _ => by cases h
  | n + 1, g, l, x, h, hg => by
    rw [takeAsked] at h
    cases h1 : takeName l with
    | error e => rw [h1] at h; cases h
    | ok y =>
      rw [h1, ebo] at h
      cases hi : cs.findIdx? fun c => c == y.1.name with
      | none => rw [hi] at h; cases h
      | some i =>
        rw [hi] at h
        simp only at h
        have hil := (List.findIdx?_eq_some_iff_getElem.mp hi).1
        split at h
        · cases h
        · rename_i hb
          have hlt := bit_lt hg hil hb
          split at h
          · exact asked_lt cs n _ _ _ h hlt
          · injection h with h
            subst h
            exact hlt
theorem ask_ok {cs : List (List UInt8)} {l : Toks} {x : Ask × Toks} (h : takeAsk cs l = .ok x) : x.1.g < 2 ^ cs.length ∧ 1 ≤ x.1.k ∧ x.1.k ≤ 99 := by
  rw [takeAsk_eq] at h
  unfold askBody at h
  cases h1 : groupF cs l with
  | error e => rw [h1] at h; cases h
  | ok g =>
    rw [h1, ebo] at h
    have hg : g.1 < 2 ^ cs.length := by
      unfold groupF at h1
      split at h1
      · exact asked_lt _ _ _ _ _ h1 (Nat.two_pow_pos _)
      · injection h1 with h1
        subst h1
        exact Nat.two_pow_pos _
    cases h2 : timesF g.2 with
    | error e => rw [h2] at h; cases h
    | ok k =>
      rw [h2, ebo] at h
      have hk : 1 ≤ k.1 ∧ k.1 ≤ 99 := by
        unfold timesF at h2
        split at h2
        · exact numF_le h2
        · injection h2 with h2
          subst h2
          exact ⟨Nat.le_refl _, (show 1 ≤ 99 by decide)⟩
      cases h3 : takeSign 59 k.2 with
      | error e => rw [h3] at h; cases h
      | ok m =>
        rw [h3, emo] at h
        injection h with h
        subst h
        exact ⟨hg, hk⟩
theorem rowLine_ok {t : Table} {l : Toks} {x : Table × Toks} (ht : TOk t) (h : rowLineF t l = .ok x) : TOk x.1 ∧ x.1.cols = t.cols := by
  unfold rowLineF at h
  cases h1 : takeWord "row" l with
  | error e => rw [h1] at h; cases h
  | ok r =>
    rw [h1, ebo] at h
    split at h
    · cases h
    · rename_i hn
      cases h2 : rowF t.cols.length r with
      | error e => rw [h2] at h; cases h
      | ok y =>
        rw [h2, emo] at h
        injection h with h
        subst h
        have e := rowF_ok h2
        have : ROWS = 16 := rfl
        refine ⟨⟨ht.c1, ht.c4, ht.wf, ?_, ht.q8, fun z hz => ?_, ht.ask⟩, rfl⟩
        · show (t.rows ++ [y.1]).length ≤ 16
          rw [List.length_append, List.length_singleton]; omega
        · rcases List.mem_append.mp hz with z | z
          · exact ht.row _ z
          · rw [List.mem_singleton.mp z]; exact e
theorem ask_line_ok {t : Table} {l : Toks} {x : Table × Toks} (ht : TOk t) (h : askF t l = .ok x) : TOk x.1 ∧ x.1.cols = t.cols := by
  unfold askF at h
  cases h1 : takeWord "ask" l with
  | error e => rw [h1] at h; cases h
  | ok r =>
    rw [h1, ebo] at h
    split at h
    · cases h
    · rename_i hn
      cases h2 : takeAsk t.cols r with
      | error e => rw [h2] at h; cases h
      | ok y =>
        rw [h2, emo] at h
        injection h with h
        subst h
        have e := ask_ok h2
        have : ASKS = 8 := rfl
        refine ⟨⟨ht.c1, ht.c4, ht.wf, ht.r16, ?_, ht.row, fun z hz => ?_⟩, rfl⟩
        · show (t.asks ++ [y.1]).length ≤ 8
          rw [List.length_append, List.length_singleton]; omega
        · rcases List.mem_append.mp hz with z | z
          · exact ht.ask _ z
          · rw [List.mem_singleton.mp z]; exact e
theorem lineF_eq (t : Table) (l : Toks) : lineF t l = if nextWord "row" l = true then rowLineF t l else askF t l := by
  unfold lineF rowLineF askF
  split
  · rename_i h
    have : takeWord "row" l = .ok (l.drop 1) := if_pos h
    rw [this]; rfl
  · rfl
/-! ### the objects -/
def spTabInit (C : Addr) : Sp := fun vs H Q _ => ∃ (p dx ca : Addr), vs = [.ref p, .ref ca] ∧ H p = some (.ins C dx []) ∧ ∀ ra qa, H ra = none → H qa = none → ra ≠ qa → 
  ∀ H', But [p] H H' → H' p = some (.ins C dx (tabF ca ra qa)) → H' ra = some (.lst []) → H' qa = some (.lst []) → Q .non H'
theorem ok_Table_init (T : Txt K mg c) : InitOk P w K mg base CX0 1 c.cTable ["self", "columns"] (spTabInit c.cTable) := by
  refine InitOk.make T.i_Table s_Table_init (fun vs H Q E h => ?_) fun f cdv A outer s H vs Q E hr h => ?_
  · obtain ⟨p, dx, ca, rfl, hp, q⟩ := h
    rfl
  · obtain ⟨p, dx, ca, rfl, hp, q⟩ := h
    refine ⟨_, (pss_cons (ps_fld (pv 0) (pv 1) rfl)
      (pss_cons (ps_fld (pv 0) (pe_lst pa_nil) rfl)
      (pss_one (ps_fld (pv 0) (pe_lst pa_nil) rfl)))), ?_⟩
    walk_at "rd"
    refine rd_sfldAt hp T.k_Table T.a_Table_columns (by walk_at "few") ?_
    walk_at "rd"
    refine ⟨Nat.zero_le _, fun ra hra => ?_⟩
    have hrp : ra ≠ p := fun z => by rw [z, upd_same] at hra; cases hra
    walk_at "rd"
    refine rd_sfldAt (by rw [upd_ne (Ne.symm hrp), upd_same]) T.k_Table T.a_Table_rows (by walk_at "few") ?_
    walk_at "rd"
    refine ⟨Nat.zero_le _, fun qa hqa => ?_⟩
    have hqp : qa ≠ p := fun z => by rw [z, upd_same] at hqa; cases hqa
    rw [upd_ne hqp] at hqa
    have hqr : qa ≠ ra := fun z => by rw [z, upd_same] at hqa; cases hqa
    walk_at "rd"
    refine rd_sfldAt (by rw [upd_ne (Ne.symm hqp), upd_same]) T.k_Table T.a_Table_questions (by walk_at "few") ?_
    walk_at "rd"
    rw [upd_ne hrp] at hra
    rw [upd_ne hqr, upd_ne hqp] at hqa
    refine q ra qa hra hqa (Ne.symm hqr) _ (fun b o hb hh => ?_) upd_same ?_ ?_
    · have hbp : b ≠ p := by simpa using hb
      rw [upd_ne hbp, upd_ne (ne_of_none hh hqa), upd_ne hbp, upd_ne (ne_of_none hh hra), upd_ne hbp]
      exact hh
    · rw [upd_ne hrp, upd_ne (Ne.symm hqr), upd_ne hrp, upd_same]
    · rw [upd_ne hqp, upd_same]
def spRdrInit (C : Addr) : Sp := fun vs H Q _ => ∃ (p dx ta : Addr), vs = [.ref p, .ref ta] ∧ H p = some (.ins C dx []) ∧ Q .non (upd H p (.ins C dx (rdrF ta 0)))
theorem ok_Reader_init (T : Txt K mg c) : InitOk P w K mg base CX0 1 c.cReader ["self", "tokens"] (spRdrInit c.cReader) := by
  refine InitOk.make T.i_Reader s_Reader_init (fun vs H Q E h => ?_) fun f cdv A outer s H vs Q E hr h => ?_
  · obtain ⟨p, dx, ca, rfl, hp, q⟩ := h
    rfl
  · obtain ⟨p, dx, ca, rfl, hp, q⟩ := h
    refine ⟨_, (pss_cons (ps_fld (pv 0) (pv 1) rfl)
      (pss_one (ps_fld (pv 0) pe_int rfl))), ?_⟩
    walk_at "rd"
    refine rd_sfldAt hp T.k_Reader T.a_Reader_tokens (by walk_at "few") ?_
    walk_at "rd"
    refine rd_sfldAt upd_same T.k_Reader T.a_Reader_at (by walk_at "few") ?_
    rw [upd_upd]
    exact q
/-! ### a text -/
theorem Ex.but {S : List Addr} {H H1 H2 : Hp} (e : Ex H H1) (k : But S H1 H2) (n : ∀ x ∈ S, H x = Option.none) : Ex H H2 := fun b o hb => k b o (fun z => by rw [n b z] at hb; cases hb) (e b o hb)
theorem ErrOut.all {E : XK} {S : List Addr} {f : VamvsBase.Fault} {H H1 : Hp} (e : ErrOut c E [] f H) (k : Ex H H1) (n : ∀ x ∈ S, H x = Option.none) : ErrOut c E S f H1 :=
  e.up fun b o _ h => ⟨fun z => absurd h (by rw [n b z]; exact fun y => nomatch y), k b o h⟩
theorem Ex.trans {H H1 H2 : Hp} (a : Ex H H1) (b : Ex H1 H2) : Ex H H2 := fun x o h => b x o (a x o h)
theorem made_rdr {H : Hp} {x dx p : Addr} {us : List V} {ts : Toks} (hx : H x = none) (hdx : H dx = none) (hne : dx ≠ x) (hp : H p = some (.lst us)) (ht : Toks' c H us ts) (tl : TL ts) (pl : ∀ y ∈ ts, y.place ≤ 100000) :
    Ex H (upd (upd (upd H dx (.own x)) x (.ins c.cReader dx [])) x (.ins c.cReader dx (rdrF p 0))) ∧ RdrAt c (upd (upd (upd H dx (.own x)) x (.ins c.cReader dx [])) x (.ins c.cReader dx (rdrF p 0))) x p ts := by
  have k : Ex H (upd (upd (upd H dx (.own x)) x (.ins c.cReader dx [])) x (.ins c.cReader dx (rdrF p 0))) := fun b o hb => by
    rw [upd_ne (ne_of_none hb hx), upd_ne (ne_of_none hb hx), upd_ne (ne_of_none hb hdx)]; exact hb
  exact ⟨k, dx, us, ts, 0, upd_same, k _ _ hp, ht.ex k, rfl, tl, pl⟩

def spReadTable (K : PySem.W.Frag) (c : Cs) : Sp := fun vs H Q E => ∃ (ta : Addr) (b : List UInt8), vs = [.ref ta] ∧ SqL K H ta (b.map bv) ∧ b.length ≤ 8192 ∧
  (∀ f, Vamvsa.read b = .error f → ErrOut c E [] f H) ∧ ∀ t, Vamvsa.read b = .ok t → ∀ tb ca ra qa H', Ex H H' → H tb = none → H ca = none → H ra = none → H qa = none → TabAt c H' tb ca ra qa t → TOk t → Q (.ref tb) H'
theorem ok_read_table (T : Txt K mg c) : DefOk P w K mg base (L2.CX P w) 7 "read_table" ["text"] (spReadTable K c) := by
  obtain ⟨f_Reader_init, fd_Reader_init, m_Reader_init, b_Reader_init, F_Reader_init⟩ := ok_Reader_init (P := P) (w := w) (base := base) T
  obtain ⟨f_tokens_of, fd_tokens_of, g_tokens_of, k_tokens_of, b_tokens_of, F_tokens_of⟩ := ok_tokens_of (P := P) (w := w) (base := base) T
  obtain ⟨f_Table_init, fd_Table_init, m_Table_init, b_Table_init, F_Table_init⟩ := ok_Table_init (P := P) (w := w) (base := base) T
  obtain ⟨f_read_columns, fd_read_columns, g_read_columns, k_read_columns, b_read_columns, F_read_columns⟩ := ok_read_columns (P := P) (w := w) (base := base) T
  obtain ⟨f_Reader_sees, fd_Reader_sees, m_Reader_sees, b_Reader_sees, F_Reader_sees⟩ := ok_Reader_sees (P := P) (w := w) (base := base) T
  obtain ⟨f_read_row, fd_read_row, g_read_row, k_read_row, b_read_row, F_read_row⟩ := ok_read_row (P := P) (w := w) (base := base) T
  obtain ⟨f_read_question, fd_read_question, g_read_question, k_read_question, b_read_question, F_read_question⟩ := ok_read_question (P := P) (w := w) (base := base) T
  obtain ⟨f_Fault, fd_Fault, fi_Fault, ft_Fault, b_Fault, F_Fault⟩ := ok_Fault_init (P := P) (w := w) (base := base) T
  refine DefOk.makeX T.d_read_table s_read_table (fun vs H Q E h => ?_) fun f cdv A outer s H vs Q E hr h => ?_
  · obtain ⟨ta, b, rfl, hs, hl, qe, q⟩ := h
    rfl
  · obtain ⟨ta, b, rfl, hs, hl, qe, q⟩ := h
    refine ⟨_, (pss_cons (ps_if (pt_cmpR op_gt (pe_callB call_len_seq (by rfl) T.n_len (by decide +kernel) (pa_cons (pv 0) pa_nil)) (pe_glob rfl T.c_MOST_BYTES.choose_spec.1 T.c_MOST_BYTES.choose_spec.2) (nomark _))
      (pss_one (ps_raise rfl (takes_of rfl rfl rfl rfl) (pmk_err T.k_Fault.1 fi_Fault ft_Fault F_Fault (hr.mono (by decide)) b_Fault pass0 rfl T.k_Fault.2.2.1 (pa_cons pe_int (pa_cons (pe_glob rfl T.c_MOST_BYTES.choose_spec.1 T.c_MOST_BYTES.choose_spec.2) pa_nil)))))
      pss_nil)
      (pss_cons (ps_set (i := 1) s_read_table.nd rfl (Or.inl rfl) (pe_make m_Reader_init F_Reader_init (hr.mono (by decide)) rfl T.g_Reader b_Reader_init .nil pass0 (pa_cons (pe_call F_tokens_of (hr.mono (by decide)) rfl g_tokens_of k_tokens_of b_tokens_of .nil (passes_call (takes_of rfl rfl rfl rfl) (fun _ _ _ _ h => h)) (pa_cons (pv 0) pa_nil)) pa_nil)))
      (pss_cons (ps_set (i := 2) s_read_table.nd rfl (Or.inl rfl) (pe_make m_Table_init F_Table_init (hr.mono (by decide)) rfl T.g_Table b_Table_init .nil pass0 (pa_cons (pe_call F_read_columns (hr.mono (by decide)) rfl g_read_columns k_read_columns b_read_columns .nil (passes_call (takes_of rfl rfl rfl rfl) (fun _ _ _ _ h => h)) (pa_cons (pv 1) pa_nil)) pa_nil)))
      (pss_cons (ps_while (passes_of rfl) (pt_not (pt_val (pe_meth (pv 1) T.k_Reader m_Reader_sees F_Reader_sees (hr.mono (by decide)) b_Reader_sees .nil pass0 (pa_cons pe_str pa_nil))))
      (pss_one (ps_if (pt_val (pe_meth (pv 1) T.k_Reader m_Reader_sees F_Reader_sees (hr.mono (by decide)) b_Reader_sees .nil pass0 (pa_cons pe_str pa_nil)))
      (pss_one (ps_expr (pe_call F_read_row (hr.mono (by decide)) rfl g_read_row k_read_row b_read_row .nil (passes_call (takes_of rfl rfl rfl rfl) (fun _ _ _ _ h => h)) (pa_cons (pv 1) (pa_cons (pv 2) pa_nil)))))
      (pss_one (ps_expr (pe_call F_read_question (hr.mono (by decide)) rfl g_read_question k_read_question b_read_question .nil (passes_call (takes_of rfl rfl rfl rfl) (fun _ _ _ _ h => h)) (pa_cons (pv 1) (pa_cons (pv 2) pa_nil))))))))
      (pss_one (ps_ret (pv 2))))))), ?_⟩
    walk_at "rd"
    rw [read_eq] at qe q
    refine ⟨ta, _, rfl, Or.inl hs, ?_⟩
    rw [List.length_map]
    walk_at "rd"
    refine rd_ite (fun h1 => ?_) (fun h1 => ?_)
    · have h1 : VamvsBase.TEXT < b.length := by have : VamvsBase.TEXT = 4096 := rfl; omega
      walk_at "rd"
      refine fault_done (n := 1) (m := 4096) (by decide) (by decide) ?_
      exact qe ⟨1, 4096⟩ (if_pos h1)
    have h1 : ¬ VamvsBase.TEXT < b.length := by have : VamvsBase.TEXT = 4096 := rfl; omega
    rw [if_neg h1] at qe q
    walk_at "rd"
    refine ⟨ta, b, rfl, hs, hl, fun f hf => ?_, fun ts hts p us H1 k1 hp hpH htk hul => ?_⟩
    · refine qe f ?_
      rw [hf]; rfl
    rw [hts, ebo] at qe q
    have htl : TL ts := lex_TL _ _ _ _ hts
    have hpl : ∀ y ∈ ts, y.place ≤ 100000 := fun y hy => by
      have := lex_places _ _ _ _ hts y hy
      omega
    walk_at "rd"
    intro r dx hr1 hdx1 hdr
    refine ⟨r, dx, p, rfl, upd_same, rfl, ?_⟩
    obtain ⟨k2, hR2⟩ := made_rdr hr1 hdx1 hdr hp htk htl hpl
    have hrH : H r = none := Ex.none k1 hr1
    have nS : ∀ x ∈ [r], H x = none := fun x hx => by rw [List.mem_singleton.mp hx]; exact hrH
    have k12 := k1.trans k2
    walk_at "rd"
    refine ⟨r, p, ts, rfl, hR2, fun f hf => ?_, fun cs l' hcs ca H3 k3 hR3 hca2 hca hc1 hc4 hwf => ?_⟩
    · refine (qe f ?_).all k12 nS
      unfold colsAll at hf
      cases hw : takeWord "columns" ts with
      | error e => rw [hw] at hf; injection hf with hf; rw [hf]; rfl
      | ok l1 =>
        rw [hw, ebo] at hf
        rw [ebo, hf]; rfl
    have ec : ((takeWord "columns" ts).bind fun r => (colsF [] r).bind fun x => linesF ⟨x.1, [], []⟩ x.2) = linesF ⟨cs, [], []⟩ l' := by
      unfold colsAll at hcs
      cases hw : takeWord "columns" ts with
      | error e => rw [hw] at hcs; cases hcs
      | ok l1 =>
        rw [hw, ebo] at hcs
        rw [ebo, hcs]; rfl
    rw [ec] at qe q
    have k123 : Ex H H3 := k12.but k3 nS
    have hcaH : H ca = none := Ex.none k12 hca2
    walk_at "rd"
    intro tb dt htb hdt hdtb
    refine ⟨tb, dt, ca, rfl, upd_same, fun ra qa hra hqa hrq H4 k4 htb4 hra4 hqa4 => ⟨rfl, ?_⟩⟩
    have x3 : Ex H3 (upd (upd H3 dt (.own tb)) tb (.ins c.cTable dt [])) := fun b o hb => by
      rw [upd_ne (ne_of_none hb htb), upd_ne (ne_of_none hb hdt)]; exact hb
    have k34 : Ex H3 H4 := fun b o hb => k4 b o (by simpa using ne_of_none hb htb) (x3 b o hb)
    have hra3 := Ex.none x3 hra
    have hqa3 := Ex.none x3 hqa
    have hraH := Ex.none k123 hra3
    have hqaH := Ex.none k123 hqa3
    have hrap : ra ≠ p := hR3.notA hra3
    have hqap : qa ≠ p := hR3.notA hqa3
    have hT4 : TabAt c H4 tb ca ra qa ⟨cs, [], []⟩ := ⟨⟨dt, htb4⟩, k34 _ _ hca, ⟨[], hra4, .nil⟩, ⟨[], hqa4, .nil⟩, ne_of_none hca hra3, ne_of_none hca hqa3, hrq⟩
    have k04 : Ex H H4 := k123.trans k34
    have hO4 : TOk ⟨cs, [], []⟩ := ⟨hc1, hc4, hwf, Nat.zero_le _, Nat.zero_le _, by simp, by simp⟩
    walk_at "rd"
    refine ⟨fun μ σ H' => ∃ (t : Table) (l3 : Toks), σ = [some (.ref ta), some (.ref r), some (.ref tb)] ∧ Ex H H' ∧ RdrAt c H' r p l3 ∧ TabAt c H' tb ca ra qa t ∧ TOk t ∧ μ = l3.length ∧ linesF ⟨cs, [], []⟩ l' = linesF t l3,
      ⟨_, _, l', rfl, k04, hR3.ex k34, hT4, hO4, rfl, rfl⟩, ?_⟩
    rintro μ σ H5 ⟨t, l3, rfl, k5, hR5, hT5, hO5, rfl, heq⟩
    obtain ⟨n3, t3, l4, rfl, hn3, htl3⟩ := hR5.head
    obtain ⟨dx3, _, _, _, g1, _⟩ := id hR5
    walk_at "rd"
    refine ⟨r, dx3, _, rfl, g1, rfl, ?_⟩
    walk_at "rd"
    refine ⟨r, p, n3, t3, l4, _, rfl, hR5, ?_⟩
    walk_at "rd"
    refine rd_iteN (fun hk3 => ?_) (fun hk3 => ?_)
    · have hlast : next .last (⟨n3, t3⟩ :: l4) = false := next_no fun z => hk3 (kind_last.mpr z)
      rw [linesF_eq t (⟨n3, t3⟩ :: l4), hlast, if_neg (by decide), lineF_eq] at heq
      refine ⟨_, fun _ _ h => h, ?_⟩
      walk_at "rd"
      refine ⟨r, dx3, _, rfl, g1, rfl, ?_⟩
      walk_at "rd"
      refine ⟨r, p, n3, t3, l4, _, rfl, hR5, ?_⟩
      walk_at "rd"
      refine rd_ite (fun hk4 => ?_) (fun hk4 => ?_)
      · have ht := (kind_word (Or.inr (Or.inl rfl))).mp hk4
        have e1 : nextWord "row" (⟨n3, t3⟩ :: l4) = true := next_iff.mpr ht
        rw [if_pos e1] at heq
        walk_at "rd"
        refine ⟨r, p, tb, ca, ra, qa, t, _, rfl, hR5, hT5, hrap, hO5, fun f hf => ?_, fun t' l6 ht6 H6 k6 hR6 hT6 => ?_⟩
        · refine (qe f ?_).all k5 nS
          rw [heq, hf]; rfl
        walk_at "rd"
        have hlt : l6.length < (⟨n3, t3⟩ :: l4 : Toks).length := lineF_rest (t := t) (x := (t', l6)) (by rw [lineF_eq, if_pos e1]; exact ht6)
        refine ⟨l6.length, hlt, t', l6, rfl, k5.but k6 fun x hx => ?_, hR6, hT6, (rowLine_ok hO5 ht6).1, rfl, by rw [heq, ht6]; rfl⟩
        rcases List.mem_cons.mp hx with z | z
        · rw [z]; exact hrH
        · rw [List.mem_singleton.mp z]; exact hraH
      · have e1 : ¬ nextWord "row" (⟨n3, t3⟩ :: l4) = true := fun z => hk4 ((kind_word (Or.inr (Or.inl rfl))).mpr (next_iff.mp z))
        rw [if_neg e1] at heq
        walk_at "rd"
        refine ⟨r, p, tb, ca, ra, qa, t, _, rfl, hR5, hT5, hqap, hO5, fun f hf => ?_, fun t' l6 ht6 H6 k6 hR6 hT6 => ?_⟩
        · refine (qe f ?_).all k5 nS
          rw [heq, hf]; rfl
        walk_at "rd"
        have hlt : l6.length < (⟨n3, t3⟩ :: l4 : Toks).length := lineF_rest (t := t) (x := (t', l6)) (by rw [lineF_eq, if_neg e1]; exact ht6)
        refine ⟨l6.length, hlt, t', l6, rfl, k5.but k6 fun x hx => ?_, hR6, hT6, (ask_line_ok hO5 ht6).1, rfl, by rw [heq, ht6]; rfl⟩
        rcases List.mem_cons.mp hx with z | z
        · rw [z]; exact hrH
        · rw [List.mem_singleton.mp z]; exact hqaH
    · have hlast : next .last (⟨n3, t3⟩ :: l4) = true := next_iff.mpr (kind_last.mp hk3)
      rw [linesF_eq t (⟨n3, t3⟩ :: l4), hlast, if_pos rfl] at heq
      walk_at "rd"
      refine q t heq tb ca ra qa H5 k5 ?_ hcaH hraH hqaH hT5 hO5
      exact Ex.none k123 htb
end
end Bk
end
section
local macro_rules | `(tactic| walk_at "rd1") => `(tactic| first
  | with_reducible refine Bk.rd_seq ?_
  | ((with_reducible refine' Bk.rd_var ?k1 ?_); (case k1 => exact rfl))
  | with_reducible refine Bk.rd_c ?_
  | with_reducible refine Bk.rd_op ?_
  | with_reducible refine Bk.rd_I0 ?_
  | ((with_reducible refine' Bk.rd_I ?k1 ?_); (case k1 => first | assumption | omega))
  | with_reducible refine Bk.rd_test ?_
  | with_reducible refine Bk.rd_tB ?_
  | with_reducible refine Bk.rd_bl ?_
  | ((with_reducible refine' Bk.rd_eq ?k1 ?_); (case k1 => exact rfl))
  | ((with_reducible refine' Bk.rd_ne ?k1 ?_); (case k1 => exact rfl))
  | with_reducible refine Bk.rd_and ?_
  | with_reducible refine Bk.rd_or ?_
  | with_reducible refine Bk.rd_not ?_
  | with_reducible refine Bk.rd_andV ?_
  | with_reducible refine Bk.rd_isN ?_
  | with_reducible refine Bk.rd_notN ?_
  | with_reducible refine Bk.rd_asg ?_
  | with_reducible refine Bk.rd_nm ?_
  | with_reducible refine Bk.rd_ret ?_
  | with_reducible refine Bk.rd_drop ?_
  | with_reducible refine Bk.rd_if ?_
  | with_reducible refine Bk.rd_ifE ?_
  | ((with_reducible refine' Bk.rd_aug ?k1 ?_); (case k1 => exact rfl))
  | with_reducible refine Bk.rd_ipI ?_
  | with_reducible refine Bk.rd_nil ?_
  | with_reducible refine Bk.rd_cons ?_
  | with_reducible refine Bk.rd_CB ?_
  | with_reducible refine Bk.rd_call ?_
  | with_reducible refine Bk.rd_callS ?_
  | with_reducible refine Bk.rd_un ?_
  | with_reducible refine Bk.rd_U ?_
  | with_reducible refine Bk.rd_fld ?_
  | with_reducible refine Bk.rd_sfld ?_
  | with_reducible refine Bk.rd_tup ?_
  | with_reducible refine Bk.rd_lst ?_
  | with_reducible refine Bk.rd_next ?_
  | with_reducible refine Bk.rd_brk ?_
  | with_reducible refine Bk.rd_BM ?_
  | with_reducible refine Bk.rd_BM0 ?_
  | with_reducible refine Bk.rd_for ?_
  | with_reducible refine Bk.rd_iStr ?_
  | with_reducible refine Bk.rd_fldaug ?_
  | with_reducible refine Bk.rd_mkO ?_
  | with_reducible refine Bk.rd_js ?_
  | with_reducible refine Bk.rd_js0 ?_
  | with_reducible refine Bk.rd_fmt ?_
  | with_reducible refine Bk.rd_erI ?_
  | with_reducible refine Bk.rd_erSet ?_
  | with_reducible refine Bk.rd_lc ?_
  | with_reducible refine Bk.rd_yes' ?_
  | with_reducible refine Bk.rd_iList ?_
  | with_reducible refine Bk.rd_iTup ?_
  | with_reducible refine Bk.rd_iRng1 ?_
  | with_reducible refine Bk.rd_iEnum ?_
  | with_reducible refine Bk.rd_iZip ?_
  | with_reducible refine Bk.rd_iEnumT ?_
  | with_reducible refine Bk.rd_M1 ?_
  | with_reducible refine Bk.rd_dget2 ?_
  | with_reducible refine Bk.rd_dput ?_
  | with_reducible refine Bk.rd_sl ?_
  | with_reducible refine Bk.rd_noPart ?_
  | with_reducible refine Bk.rd_part ?_
  | with_reducible refine Bk.rd_int ?_
  | with_reducible refine Bk.rd_str ?_
  | with_reducible refine Bk.rd_isstr ?_
  | with_reducible refine Bk.rd_make ?_
  | with_reducible refine Bk.rd_meth ?_
  | with_reducible refine L2.iteT ?_
  | with_reducible refine L2.iteF ?_)
local macro_rules | `(tactic| walk_at "rd") => `(tactic| repeat (walk_at "rd1"))
local macro_rules | `(tactic| walk_at "few") => `(tactic| first | exact (show (0 : Nat) < 1000 by decide) | exact (show (1 : Nat) < 1000 by decide) | exact (show (2 : Nat) < 1000 by decide) | exact (show (3 : Nat) < 1000 by decide) | exact (show (4 : Nat) < 1000 by decide) | exact (show (5 : Nat) < 1000 by decide) | exact (show (6 : Nat) < 1000 by decide) | exact (show (7 : Nat) < 1000 by decide))

/-! the one form -/
namespace Bk
open PySem hiding Tok
open PySem.Spec hiding Row
open PyProof.Rows L2
open VamvsBase (isBlank isDigit isLetter word joined showNat showInt)
open Vamvsa (Table Row Ask commas columnsOf line showRow showAsk)
section
variable {P : Program} {w : World} {K : PySem.W.Frag} {mg : Str → Option Value} {base : Heap} {c : Cs}
/-! ### texts by their bytes -/
def tn (l : List UInt8) : Str := ⟨(l.map UInt8.toNat).toArray⟩
theorem tl_tn (l : List UInt8) : TL.tl (tn l) = l.map UInt8.toNat := rfl
theorem tn_len (l : List UInt8) : (tn l).length = l.length := by rw [TL.len_tl, tl_tn, List.length_map]
theorem tn_append (a b : List UInt8) : tn (a ++ b) = tn a ++ tn b := TL.ext_tl (by rw [TL.tl_append, tl_tn, tl_tn, tl_tn, List.map_append])
theorem tn_nil : tn [] = Str.empty := rfl
theorem tx_tn {d : List UInt8} (h : wfN d) : tx d = tn d := TL.ext_tl (List.map_congr_left fun b hb => sgn_known (known_ld (h.2.2 b hb)))
theorem joinL_map (s : List UInt8) : ∀ l : List (List UInt8), TL.joinL (s.map UInt8.toNat) (l.map fun d => d.map UInt8.toNat) = (joined s l).map UInt8.toNat
  | [] => rfl
  | [p] => rfl
  | p :: q :: r => by
    have ih := joinL_map s (q :: r)
    show p.map UInt8.toNat ++ (s.map UInt8.toNat ++ TL.joinL (s.map UInt8.toNat) ((q :: r).map fun d => d.map UInt8.toNat)) = (p ++ s ++ joined s (q :: r)).map UInt8.toNat
    rw [ih, List.map_append, List.map_append, List.append_assoc]
theorem tn_join {y : Str} {s : List UInt8} (e : y = tn s) (l : List (List UInt8)) : Txt.join y (l.map tn) = tn (joined s l) := TL.ext_tl (by
  rw [TL.join_eq, TL.tl_join, tl_tn, ← joinL_map, e, tl_tn, List.map_map]; rfl)
theorem u8_nat {n : Nat} (h : n < 256) : (UInt8.ofNat n).toNat = n := by rw [UInt8.toNat_ofNat']; exact Nat.mod_eq_of_lt h
theorem showNat_codes (n : Nat) : (showNat n).map UInt8.toNat = TL.numL n := by
  show ((Nat.toDigits 10 n).map fun c => UInt8.ofNat c.toNat).map UInt8.toNat = (Nat.toDigits 10 n).map Char.toNat
  rw [List.map_map]
  refine List.map_congr_left fun c hc => ?_
  have := TL.numL_digits n c.toNat (List.mem_map_of_mem hc)
  exact u8_nat (by omega)
theorem tn_nat (n : Nat) : Str.ofString (toString (n : Int)) = tn (showNat n) := TL.ext_tl (by rw [TL.tl_num, tl_tn, showNat_codes])
theorem tn_int (m : Int) : Str.ofString (toString m) = tn (showInt m) := by
  cases m with
  | ofNat n =>
    have : showInt (Int.ofNat n) = showNat n := if_neg (by simp)
    rw [this]
    exact tn_nat n
  | negSucc n =>
    have e : showInt (Int.negSucc n) = 45 :: showNat (n + 1) := if_pos (Int.negSucc_lt_zero n)
    rw [e]
    refine TL.ext_tl ?_
    have e2 : toString (Int.negSucc n) = "-" ++ toString (((n + 1 : Nat)) : Int) := rfl
    rw [e2, TL.tl_ofString, String.toList_append, List.map_append, ← TL.tl_ofString, ← TL.tl_ofString, TL.tl_num, tl_tn, List.map_cons, showNat_codes]
    rfl
theorem nat_len {n k : Nat} (hk : 0 < k) (h : n < 10 ^ k) : (showNat n).length ≤ k := by
  have := TL.numL_len hk h
  rw [← showNat_codes, List.length_map] at this
  exact this
theorem int_len {m : Int} (h : m.natAbs ≤ 1000) : (showInt m).length ≤ 5 := by
  have := nat_len (n := m.natAbs) (k := 4) (by decide) (Nat.lt_of_le_of_lt h (by decide))
  unfold showInt
  split
  · rw [List.length_cons]; omega
  · omega
theorem joined_len {s : List UInt8} {B : Nat} : ∀ {l : List (List UInt8)}, (∀ x ∈ l, x.length ≤ B) → (joined s l).length ≤ l.length * (B + s.length)
  | [], _ => Nat.zero_le _
  | [p], h => by
    have := h p (by simp)
    show p.length ≤ 1 * (B + s.length)
    omega
  | p :: q :: r, h => by
    have ih := joined_len (s := s) (l := q :: r) fun x hx => h x (List.mem_cons_of_mem _ hx)
    have h1 := h p (by simp)
    show (p ++ s ++ joined s (q :: r)).length ≤ _
    rw [List.length_append, List.length_append, List.length_cons (a := p), Nat.add_mul]
    omega
theorem sum_len {B : Nat} : ∀ {l : List (List UInt8)}, (∀ x ∈ l, x.length ≤ B) → ((l.map tn).map fun x => x.length).sum ≤ l.length * B
  | [], _ => Nat.zero_le _
  | p :: r, h => by
    have ih := sum_len (l := r) fun x hx => h x (List.mem_cons_of_mem _ hx)
    have h1 := h p (by simp)
    rw [List.map_cons, List.map_cons, List.sum_cons, tn_len, List.length_cons, Nat.add_mul]
    omega
theorem nameVs_tn {cs : List (List UInt8)} (h : ∀ d ∈ cs, wfN d) : nameVs cs = (cs.map tn).map V.str := by
  unfold nameVs
  rw [List.map_map]
  exact List.map_congr_left fun d hd => congrArg V.str (tx_tn (h d hd))
theorem small_log {n : Nat} (h : n ≤ 100000) : n.log2 < 1920 := by
  by_cases h0 : n = 0
  · rw [h0]; decide
  · exact Nat.lt_trans ((Nat.log2_lt h0).mpr (Nat.lt_of_le_of_lt h (by decide : 100000 < 2 ^ 17))) (by decide)
/-! ### a comprehension that only adds objects -/
def LPv (H1 : Hp) (D : Addr) (out : Nat → List V) (i : Nat) (H' : Hp) : Prop := Ex H1 H' ∧ H' D = some (.lst (out i))
theorem LPv.start {H1 : Hp} {D : Addr} {out : Nat → List V} (hD : H1 D = none) (h0 : out 0 = []) : LPv H1 D out 0 (upd H1 D (.lst [])) := ⟨Ex.new hD, by rw [upd_same, h0]⟩
theorem LPv.put {H1 H3 H4 : Hp} {D : Addr} {out : Nat → List V} {i : Nat} {y : V} (h : LPv H1 D out i H3) (k : Ex H3 H4) (hD : H1 D = none) (l : (out i).length < sizeLine) (e : out (i + 1) = out i ++ [y]) :
    ∃ acc, H4 D = some (.lst acc) ∧ acc.length < sizeLine ∧ LPv H1 D out (i + 1) (upd H4 D (.lst (acc ++ [y]))) :=
  ⟨out i, k _ _ h.2, l, (h.1.trans k).mut hD, by rw [upd_same, e]⟩
theorem LPv.skip {H1 H3 H4 : Hp} {D : Addr} {out : Nat → List V} {i : Nat} (h : LPv H1 D out i H3) (k : Ex H3 H4) (e : out (i + 1) = out i) : LPv H1 D out (i + 1) H4 :=
  ⟨h.1.trans k, by rw [e]; exact k _ _ h.2⟩
theorem SqT.mk {H : Hp} {a : Addr} {xs : List V} (h : H a = some (.tup xs)) : SqT K H a xs := .inl (.inl h)
theorem rd_tup2 {σ : L2.St} {H : Hp} {t : Addr} {x y : V} {i j : Nat} {Q : L2.St → Hp → Prop} (h : H t = some (.tup [x, y])) (q : Q ((σ.set i (some x)).set j (some y)) H) : gTup K 2 (gCons (gName i) (gCons (gName j) gNil)) (.ref t) σ H Q :=
  ⟨t, [x, y], rfl, SqT.mk h, rfl, x, [y], rfl, y, [], rfl, rfl, q⟩
/-! ### a grouping's names -/
def namesF (cs : List (List UInt8)) (g : Nat) : List (List UInt8) := (columnsOf cs.length g).map fun i => cs.getD i []
def bitsTo (g n : Nat) : List Nat := (List.range n).filter fun i => g / 2 ^ i % 2 == 1
theorem bitsTo_yes {g n : Nat} (h : g / 2 ^ n % 2 = 1) : bitsTo g (n + 1) = bitsTo g n ++ [n] := by
  unfold bitsTo
  rw [List.range_succ, List.filter_append]
  congr 1
  rw [List.filter_cons, h]; rfl
theorem bitsTo_no {g n : Nat} (h : ¬ g / 2 ^ n % 2 = 1) : bitsTo g (n + 1) = bitsTo g n := by
  unfold bitsTo
  rw [List.range_succ, List.filter_append]
  have : (g / 2 ^ n % 2 == 1) = false := by simpa using h
  rw [List.filter_cons, this]
  exact List.append_nil _
theorem bitsTo_len (g n : Nat) : (bitsTo g n).length ≤ n := by
  have := List.length_filter_le (fun i => g / 2 ^ i % 2 == 1) (List.range n)
  rw [List.length_range] at this
  exact this
theorem shift_bit (g i : Nat) : Builtin.bitAnd ((g : Int) / 2 ^ ((i : Int)).toNat) 1 = ((g / 2 ^ i % 2 : Nat) : Int) := by
  have e : (g : Int) / 2 ^ ((i : Int)).toNat = ((g / 2 ^ i : Nat) : Int) := by
    rw [Int.toNat_natCast]; push_cast; rfl
  rw [e, PyProof.Rows.bitAnd_pp (Int.natCast_nonneg _) (by decide), Int.toNat_natCast]
  show ((g / 2 ^ i &&& 1 : Nat) : Int) = _
  rw [Nat.and_one_is_mod]
def spNames : Sp := fun vs H Q _ => ∃ (ca : Addr) (cs : List (List UInt8)) (g : Nat), vs = [.ref ca, .int g] ∧ H ca = some (.lst (nameVs cs)) ∧ cs.length ≤ 4 ∧
  ∀ p H', Ex H H' → H p = none → H' p = some (.lst (nameVs (namesF cs g))) → Q (.ref p) H'
theorem ok_names_of (T : Txt K mg c) : DefOk P w K mg base CX0 1 "names_of" ["columns", "grouping"] spNames := by
  refine DefOk.make T.d_names_of s_names_of (fun vs H Q E h => ?_) fun f cdv A outer s H vs Q E hr h => ?_
  · obtain ⟨ca, cs, g, rfl, hc, hc4, q⟩ := h
    rfl
  · obtain ⟨ca, cs, g, rfl, hc, hc4, q⟩ := h
    refine ⟨_, (pss_one (ps_ret (pe_lc (own := [("place", 2), ("name", 3)]) rfl s_names_of.nd (pi_enum rfl T.n_enumerate (pa_cons (pv 0) pa_nil)) (blkOk_by (own := [("place", 2), ("name", 3)]) (N := N_names_of) (sc := defScope (top 72)) (by decide +kernel)) (fun _ _ _ _ _ => (pg_tupK (K := K) (n := 2) (by rfl) (by rfl) (pgs_cons (pg_name (i := 2) s_names_of.nd rfl (Or.inl rfl)) (pgs_cons (pg_name (i := 3) s_names_of.nd rfl (Or.inl rfl)) pgs_nil)))) (fun _ _ _ _ _ => (pts_one (pt_cmpR op_eq (pe_op op_and (pe_op op_shr (pv 1) (pv 2)) pe_int) pe_int (nomark _)))) (fun _ _ _ _ _ => (pv 3))))), ?_⟩
    walk_at "rd"
    refine ⟨ca, _, rfl, SqL.of hc, fun D hD => ?_⟩
    have hsz : sizeLine = 16777216 := rfl
    have hlen : (nameVs cs).length = cs.length := by unfold nameVs; rw [List.length_map]
    refine lc_it walk_enum (LPv H D fun i => nameVs ((bitsTo g i).map fun i => cs.getD i [])) (LPv.start hD rfl) (fun i H' hi h => SqL.of (h.1 _ _ hc)) ?_ ?_
    · rintro i x H1 H2 hi hP ⟨t, x1, y1, rfl, ht, rfl, h1, h2⟩
      injection h1 with h1
      subst h1
      have hi' : i < cs.length := by omega
      have hy : y1 = V.str (tx (cs.getD i [])) := by
        have h2 : (cs.map fun b => V.str (tx b))[i]? = some y1 := h2
        rw [List.getElem?_map, List.getElem?_eq_getElem hi'] at h2
        injection h2 with h2
        rw [← h2, List.getD_eq_getElem?_getD, List.getElem?_eq_getElem hi']; rfl
      have k1 : Ex H1 (upd H1 t (.tup [.int i, y1])) := Ex.new ht
      have hll : (nameVs ((bitsTo g i).map fun i => cs.getD i [])).length < sizeLine := by
        unfold nameVs
        rw [List.length_map, List.length_map]
        have := bitsTo_len g i
        omega
      refine rd_tup2 upd_same ⟨rfl, ?_⟩
      walk_at "rd"
      rw [shift_bit]
      refine rd_ite (fun hb => ?_) (fun hb => ?_)
      · walk_at "rd"
        subst hy
        refine hP.put k1 hD hll ?_
        have hb : g / 2 ^ i % 2 = 1 := by injection hb with hb; omega
        show nameVs ((bitsTo g (i + 1)).map _) = nameVs ((bitsTo g i).map _) ++ [_]
        rw [bitsTo_yes hb, List.map_append]
        unfold nameVs
        rw [List.map_append]; rfl
      · refine hP.skip k1 ?_
        have hb : ¬ g / 2 ^ i % 2 = 1 := fun z => hb (by rw [z]; rfl)
        show nameVs ((bitsTo g (i + 1)).map _) = nameVs ((bitsTo g i).map _)
        rw [bitsTo_no hb]
    · rintro H' ⟨k, h⟩
      rw [hlen] at h
      exact q D H' k hD h
theorem js_lit {z : Str} {a b : List UInt8} {ts : List TE} {σ : L2.St} {H : Hp} {Q : Str → Hp → Prop} (e : z = tn b) (l : (a ++ b).length ≤ 1000) (q : tJs ts (tn (a ++ b)) σ H Q) : tJs (tC (V.str z) :: ts) (tn a) σ H Q := by
  subst e
  refine ⟨tn b, rfl, ?_, ?_⟩
  · rw [← tn_append, tn_len]
    have : sizeLine = 16777216 := rfl
    omega
  · rw [← tn_append]; exact q
theorem js_str {i : Nat} {a b : List UInt8} {ts : List TE} {σ : L2.St} {H : Hp} {Q : Str → Hp → Prop} (e : σ[i]? = some (some (.str (tn b)))) (l : (a ++ b).length ≤ 1000) (q : tJs ts (tn (a ++ b)) σ H Q) : tJs (tFmt (tVar i) :: ts) (tn a) σ H Q := by
  have hsz : sizeLine = 16777216 := rfl
  refine ⟨_, e, Or.inl ⟨tn b, rfl, ?_, tn b, rfl, ?_, ?_⟩⟩
  · rw [tn_len]
    rw [List.length_append] at l
    omega
  · rw [← tn_append, tn_len]
    omega
  · rw [← tn_append]; exact q
theorem js_int {i : Nat} {a : List UInt8} {m : Int} {ts : List TE} {σ : L2.St} {H : Hp} {Q : Str → Hp → Prop} (e : σ[i]? = some (some (.int m))) (hm : m.natAbs ≤ 1000) (l : (a ++ showInt m).length ≤ 1000) (q : tJs ts (tn (a ++ showInt m)) σ H Q) : tJs (tFmt (tVar i) :: ts) (tn a) σ H Q := by
  have hsz : sizeLine = 16777216 := rfl
  refine ⟨_, e, Or.inr ⟨m, rfl, small_log (by omega), _, rfl, ?_, ?_⟩⟩
  · rw [tn_int, ← tn_append, tn_len]
    omega
  · rw [tn_int, ← tn_append]; exact q
/-! ### the lines -/
theorem kcolumns : Str.ofString "columns " = tn (word "columns ") := by decide +kernel
theorem ksemiN : Str.ofString " ;\n" = tn (word " ;" ++ [10]) := by decide +kernel
theorem ksep : Str.ofString ", " = tn (word ", ") := by decide +kernel
theorem kempty : (Str.empty : Str) = tn [] := rfl
def colsLine (t : Table) : List UInt8 := line (word "columns " ++ (commas t.cols ++ word " ;"))
theorem colsLine_len {t : Table} (h : TOk t) : (commas t.cols).length ≤ 72 ∧ (colsLine t).length ≤ 200 := by
  have e1 : (word "columns ").length = 8 := by decide +kernel
  have e2 : (word " ;").length = 2 := by decide +kernel
  have e3 : (word ", ").length = 2 := by decide +kernel
  have := joined_len (s := word ", ") (B := 16) (l := t.cols) fun x hx => (h.wf x hx).2.1
  have hc : (commas t.cols).length ≤ 72 := by
    show (joined (word ", ") t.cols).length ≤ 72
    have := h.c4
    rw [e3] at *
    omega
  refine ⟨hc, ?_⟩
  unfold colsLine line
  simp only [List.length_append, e1, e2, List.length_singleton]
  omega
def spColsLine (c : Cs) : Sp := fun vs H Q _ => ∃ (tb ca ra qa : Addr) (t : Table), vs = [.ref tb] ∧ TabAt c H tb ca ra qa t ∧ TOk t ∧ Q (.str (tn (colsLine t))) H
theorem ok_columns_line (T : Txt K mg c) : DefOk P w K mg base CX0 1 "columns_line" ["table"] (spColsLine c) := by
  refine DefOk.make T.d_columns_line s_columns_line (fun vs H Q E h => ?_) fun f cdv A outer s H vs Q E hr h => ?_
  · obtain ⟨tb, ca, ra, qa, t, rfl, hT, hok, q⟩ := h
    rfl
  · obtain ⟨tb, ca, ra, qa, t, rfl, hT, hok, q⟩ := h
    refine ⟨_, (pss_cons (ps_set (i := 1) s_columns_line.nd rfl (Or.inl rfl) (pe_join pe_str (pe_fld (pv 0) rfl)))
      (pss_one (ps_ret (pe_joined (.cons pe_str (.cons (pe_fmt (pv 1)) (.cons pe_str .nil))))))), ?_⟩
    walk_at "rd"
    obtain ⟨⟨dx, o⟩, hc, _⟩ := id hT
    have hsz : sizeLine = 16777216 := rfl
    obtain ⟨l1, l2⟩ := colsLine_len hok
    refine rd_fldAt o T.k_Table T.a_Table_columns rfl ?_
    rw [nameVs_tn hok.wf] at hc
    refine ⟨_, ca, t.cols.map tn, rfl, rfl, Or.inl (SqL.of hc), ?_, ?_⟩
    · have := sum_len (B := 16) (l := t.cols) fun x hx => (hok.wf x hx).2.1
      have e3 : (Str.ofString ", ").length = 2 := by decide +kernel
      have := hok.c4
      rw [List.length_map, e3]
      omega
    rw [tn_join ksep]
    walk_at "rd"
    refine ⟨by decide +kernel, ?_⟩
    rw [show Str.empty ++ Str.ofString "columns " = tn (word "columns ") by decide +kernel]
    have e1 : (word "columns ").length = 8 := by decide +kernel
    refine js_str rfl (by rw [List.length_append, e1]; show 8 + (commas t.cols).length ≤ 1000; omega) ?_
    have e0 : colsLine t = word "columns " ++ commas t.cols ++ (word " ;" ++ [10]) := by
      unfold colsLine line
      simp only [List.append_assoc]
    have e4 : word "columns " ++ joined (word ", ") t.cols ++ (word " ;" ++ [10]) = colsLine t := e0.symm
    refine js_lit ksemiN (by rw [e4]; omega) ?_
    rw [e4]
    exact q
theorem krowS : Str.empty ++ Str.ofString "row " = tn (word "row ") := by decide +kernel
theorem kcolonN : Str.ofString " : " = tn (word " : ") := by decide +kernel
theorem row_len {x : Row} (h1 : x.vs.length ≤ 4) (h2 : ∀ v ∈ x.vs, v ≤ 9) (h3 : x.m.natAbs ≤ 1000) : (commas (x.vs.map showNat)).length ≤ 12 ∧ (showInt x.m).length ≤ 5 ∧ (showRow x).length ≤ 200 := by
  have e1 : (word "row ").length = 4 := by decide +kernel
  have e2 : (word " ;").length = 2 := by decide +kernel
  have e3 : (word ", ").length = 2 := by decide +kernel
  have e4 : (word " : ").length = 3 := by decide +kernel
  have hb : ∀ y ∈ x.vs.map showNat, y.length ≤ 1 := fun y hy => by
    obtain ⟨v, hv, rfl⟩ := List.mem_map.mp hy
    exact nat_len (by decide) (by have := h2 v hv; omega)
  have := joined_len (s := word ", ") (B := 1) (l := x.vs.map showNat) hb
  have hi := int_len h3
  have hc : (commas (x.vs.map showNat)).length ≤ 12 := by
    show (joined (word ", ") (x.vs.map showNat)).length ≤ 12
    rw [e3, List.length_map] at this
    omega
  refine ⟨hc, hi, ?_⟩
  unfold showRow line
  simp only [List.length_append, e1, e2, e4, List.length_singleton]
  omega
def spRowLine : Sp := fun vs H Q _ => ∃ (v : V) (x : Row), vs = [v] ∧ RowV H v x ∧ x.vs.length ≤ 4 ∧ (∀ v ∈ x.vs, v ≤ 9) ∧ x.m.natAbs ≤ 1000 ∧ ∀ H', Ex H H' → Q (.str (tn (showRow x))) H'
theorem ok_row_line (T : Txt K mg c) : DefOk P w K mg base CX0 1 "row_line" ["row"] spRowLine := by
  refine DefOk.make T.d_row_line s_row_line (fun vs H Q E h => ?_) fun f cdv A outer s H vs Q E hr h => ?_
  · obtain ⟨v, x, rfl, hv, h1, h2, h3, q⟩ := h
    rfl
  · obtain ⟨v, x, rfl, hv, h1, h2, h3, q⟩ := h
    refine ⟨_, (pss_cons (ps_set (i := 1) s_row_line.nd rfl (Or.inl rfl) (pe_join pe_str (pe_lc (own := [("value", 3)]) rfl s_row_line.nd (pi_tup (pe_ix ix_tup (pv 0) pe_int (fun _ _ => rfl))) (blkOk_by (own := [("value", 3)]) (N := N_row_line) (sc := defScope (top 70)) (by decide +kernel)) (fun _ _ _ _ _ => (pg_name (i := 3) s_row_line.nd rfl (Or.inl rfl))) (fun _ _ _ _ _ => pts_nil) (fun _ _ _ _ _ => (pe_callTy call_str_int (by rfl) T.n_str (by decide +kernel) (pa_cons (pv 3) pa_nil))))))
      (pss_cons (ps_set (i := 2) s_row_line.nd rfl (Or.inl rfl) (pe_ix ix_tup (pv 0) pe_int (fun _ _ => rfl)))
      (pss_one (ps_ret (pe_joined (.cons pe_str (.cons (pe_fmt (pv 1)) (.cons pe_str (.cons (pe_fmt (pv 2)) (.cons pe_str .nil)))))))))), ?_⟩
    walk_at "rd"
    obtain ⟨p, vt, rfl, hp, hvt⟩ := hv
    have hsz : sizeLine = 16777216 := rfl
    obtain ⟨l1, l2, l3⟩ := row_len h1 h2 h3
    refine ⟨p, _, 0, _, rfl, rfl, SqT.mk hp, rfl, ?_⟩
    walk_at "rd"
    refine ⟨vt, rfl, ⟨_, SqT.mk hvt⟩, fun D hD => ?_⟩
    have hlen : (intVs x.vs).length = x.vs.length := by unfold intVs; rw [List.length_map]
    refine lc_it (walk_tup (xs := intVs x.vs)) (LPv H D fun i => ((x.vs.take i).map fun n => V.str (tn (showNat n)))) (LPv.start hD rfl) (fun i H' hi h => SqT.mk (h.1 _ _ hvt)) ?_ ?_
    · rintro i y H1 H2 hi hP ⟨rfl, hy⟩
      have hy : (x.vs.map fun (n : Nat) => V.int (n : Int))[i]? = some y := hy
      rw [List.getElem?_map] at hy
      obtain ⟨n, hn, rfl⟩ := Option.map_eq_some_iff.mp hy
      have hn9 := h2 n (List.mem_of_getElem? hn)
      walk_at "rd"
      refine ⟨rfl, ?_⟩
      walk_at "rd"
      refine ⟨_, rfl, ?_, ?_⟩
      · show ((n : Int)).natAbs.log2 < 1920
        exact small_log (by omega)
      · rw [tn_nat]
        refine hP.put (fun _ _ e => e) hD ?_ ?_
        · show ((x.vs.take i).map _).length < _
          rw [List.length_map, List.length_take]; omega
        · show (x.vs.take (i + 1)).map _ = (x.vs.take i).map _ ++ [_]
          rw [take_snoc hn, List.map_append]; rfl
    · rintro H1 ⟨k1, hD1⟩
      rw [hlen] at hD1
      dsimp only at hD1
      rw [List.take_length] at hD1
      have hD1 : H1 D = some (.lst (((x.vs.map showNat).map tn).map V.str)) := by rw [hD1, List.map_map, List.map_map]; rfl
      refine ⟨_, D, _, rfl, rfl, Or.inl (SqL.of hD1), ?_, ?_⟩
      · have := sum_len (B := 1) (l := x.vs.map showNat) fun y hy => by
          obtain ⟨v, hv, rfl⟩ := List.mem_map.mp hy
          exact nat_len (by decide) (by have := h2 v hv; omega)
        have e3 : (Str.ofString ", ").length = 2 := by decide +kernel
        rw [List.length_map, e3]
        rw [List.length_map] at this ⊢
        omega
      rw [tn_join ksep]
      walk_at "rd"
      refine ⟨p, _, 1, _, rfl, rfl, SqT.mk (k1 _ _ hp), rfl, ?_⟩
      walk_at "rd"
      refine ⟨by decide +kernel, ?_⟩
      rw [krowS]
      have e1 : (word "row ").length = 4 := by decide +kernel
      have e4 : (word " : ").length = 3 := by decide +kernel
      have l1 : (joined (word ", ") (x.vs.map showNat)).length ≤ 12 := l1
      have e0 : word "row " ++ joined (word ", ") (x.vs.map showNat) ++ word " : " ++ showInt x.m ++ (word " ;" ++ [10]) = showRow x := by
        show _ = line (word "row " ++ (joined (word ", ") (x.vs.map showNat) ++ (word " : " ++ (showInt x.m ++ word " ;"))))
        unfold line
        simp only [List.append_assoc]
      refine js_str rfl (by rw [List.length_append, e1]; omega) ?_
      refine js_lit kcolonN (by rw [List.length_append, List.length_append, e1, e4]; omega) ?_
      refine js_int rfl h3 (by rw [List.length_append, List.length_append, List.length_append, e1, e4]; omega) ?_
      refine js_lit ksemiN (by rw [e0]; omega) ?_
      rw [e0]
      exact q _ k1
def askNames (cs : List (List UInt8)) (g : Nat) : List UInt8 := commas (namesF cs g)
theorem names_wf {cs : List (List UInt8)} {g : Nat} (h : ∀ d ∈ cs, wfN d) : ∀ d ∈ namesF cs g, wfN d := fun d hd => by
  obtain ⟨i, hi, rfl⟩ := List.mem_map.mp hd
  have : i < cs.length := List.mem_range.mp (List.mem_filter.mp hi).1
  rw [List.getD_eq_getElem?_getD, List.getElem?_eq_getElem this]
  exact h _ (List.getElem_mem this)
theorem names_len (cs : List (List UInt8)) (g : Nat) : (namesF cs g).length ≤ cs.length := by
  unfold namesF
  rw [List.length_map]
  exact bitsTo_len g cs.length
def askParts (cs : List (List UInt8)) (x : Ask) : List (List UInt8) := [word "ask"] ++ (if x.g = 0 then [] else [askNames cs x.g]) ++ (if x.k = 1 then [] else [word "times " ++ showNat x.k]) ++ [word ";" ++ [10]]
theorem ask_parts (cs : List (List UInt8)) (x : Ask) : joined (word " ") (askParts cs x) = showAsk cs x := by
  have e1 : word " times " = word " " ++ word "times " := by decide +kernel
  have e2 : word " ;" = word " " ++ word ";" := by decide +kernel
  unfold askParts showAsk line
  rw [e1, e2]
  show _ = word "ask" ++ ((if x.g = 0 then [] else word " " ++ askNames cs x.g) ++ ((if x.k = 1 then [] else word " " ++ word "times " ++ showNat x.k) ++ (word " " ++ word ";"))) ++ [10]
  split <;> split <;> simp only [joined, List.append_assoc, List.nil_append, List.singleton_append, List.cons_append, List.append_nil]
theorem askNames_len {cs : List (List UInt8)} {g : Nat} (h4 : cs.length ≤ 4) (h : ∀ d ∈ cs, wfN d) : (askNames cs g).length ≤ 72 := by
  have e3 : (word ", ").length = 2 := by decide +kernel
  have := joined_len (s := word ", ") (B := 16) (l := namesF cs g) fun x hx => (names_wf h x hx).2.1
  have h5 := names_len cs g
  rw [e3] at this
  show (joined (word ", ") (namesF cs g)).length ≤ 72
  have : (namesF cs g).length * (16 + 2) ≤ 4 * 18 := Nat.mul_le_mul (by omega) (by omega)
  omega
theorem parts_len {cs : List (List UInt8)} {x : Ask} (h4 : cs.length ≤ 4) (h : ∀ d ∈ cs, wfN d) (hk : x.k ≤ 99) : (askParts cs x).length ≤ 4 ∧ ∀ y ∈ askParts cs x, y.length ≤ 72 := by
  have e1 : (word "ask").length = 3 := by decide +kernel
  have e2 : (word "times ").length = 6 := by decide +kernel
  have e3 : (word ";").length = 1 := by decide +kernel
  have hn := askNames_len (g := x.g) h4 h
  have hk2 : (showNat x.k).length ≤ 2 := nat_len (by decide) (by omega)
  unfold askParts
  constructor
  · split <;> split <;> simp
  · intro y hy
    simp only [List.mem_append, List.mem_singleton] at hy
    rcases hy with ((hy | hy) | hy) | hy
    · rw [hy]; omega
    · split at hy
      · cases hy
      · rw [List.mem_singleton.mp hy]; exact hn
    · split at hy
      · cases hy
      · rw [List.mem_singleton.mp hy, List.length_append]; omega
    · rw [hy, List.length_append, e3]; decide
theorem ask_len {cs : List (List UInt8)} {x : Ask} (h4 : cs.length ≤ 4) (h : ∀ d ∈ cs, wfN d) (hk : x.k ≤ 99) : (showAsk cs x).length ≤ 300 := by
  obtain ⟨h1, h2⟩ := parts_len h4 h hk
  rw [← ask_parts]
  have e3 : (word " ").length = 1 := by decide +kernel
  have := joined_len (s := word " ") (B := 72) h2
  rw [e3] at this
  have : (askParts cs x).length * (72 + 1) ≤ 4 * 73 := Nat.mul_le_mul h1 (by omega)
  omega
def spAskLine (c : Cs) : Sp := fun vs H Q _ => ∃ (tb ca ra qa : Addr) (t : Table) (v : V) (x : Ask), vs = [.ref tb, v] ∧ TabAt c H tb ca ra qa t ∧ TOk t ∧ AskV H v x ∧ x.k ≤ 99 ∧ ∀ H', Ex H H' → Q (.str (tn (showAsk t.cols x))) H'
theorem ok_question_line (T : Txt K mg c) : DefOk P w K mg base CX0 2 "question_line" ["table", "question"] (spAskLine c) := by
  obtain ⟨f_names_of, fd_names_of, g_names_of, k_names_of, b_names_of, F_names_of⟩ := ok_names_of (P := P) (w := w) (base := base) T
  refine DefOk.make T.d_question_line s_question_line (fun vs H Q E h => ?_) fun f cdv A outer s H vs Q E hr h => ?_
  · obtain ⟨tb, ca, ra, qa, t, v, x, rfl, hT, hok, hv, hk, q⟩ := h
    rfl
  · obtain ⟨tb, ca, ra, qa, t, v, x, rfl, hT, hok, hv, hk, q⟩ := h
    refine ⟨_, (pss_cons (ps_set (i := 2) s_question_line.nd rfl (Or.inl rfl) (pe_ix ix_tup (pv 1) pe_int (fun _ _ => rfl)))
      (pss_cons (ps_set (i := 3) s_question_line.nd rfl (Or.inl rfl) (pe_ix ix_tup (pv 1) pe_int (fun _ _ => rfl)))
      (pss_cons (ps_set (i := 4) s_question_line.nd rfl (Or.inl rfl) (pe_lst (pa_cons pe_str pa_nil)))
      (pss_cons (ps_if (pt_cmpR op_ne (pv 2) pe_int (nomark _))
      (pss_one (ps_expr (pe_bm PySem.F.plainAttrs_list PySem.F.slot_list_append PySem.F.type_list_append mt_append (pv 4) (pa_cons (pe_join pe_str (pe_call F_names_of (hr.mono (by decide)) rfl g_names_of k_names_of b_names_of .nil pass0 (pa_cons (pe_fld (pv 0) rfl) (pa_cons (pv 2) pa_nil)))) pa_nil))))
      pss_nil)
      (pss_cons (ps_if (pt_cmpR op_ne (pv 3) pe_int (nomark _))
      (pss_one (ps_expr (pe_bm PySem.F.plainAttrs_list PySem.F.slot_list_append PySem.F.type_list_append mt_append (pv 4) (pa_cons (pe_joined (.cons pe_str (.cons (pe_fmt (pv 3)) .nil))) pa_nil))))
      pss_nil)
      (pss_cons (ps_expr (pe_bm PySem.F.plainAttrs_list PySem.F.slot_list_append PySem.F.type_list_append mt_append (pv 4) (pa_cons pe_str pa_nil)))
      (pss_one (ps_ret (pe_join pe_str (pv 4)))))))))), ?_⟩
    walk_at "rd"
    obtain ⟨⟨dx, o⟩, hc, _⟩ := id hT
    obtain ⟨p, rfl, hp⟩ := hv
    have hsz : sizeLine = 16777216 := rfl
    refine ⟨p, _, 0, _, rfl, rfl, SqT.mk hp, rfl, ?_⟩
    walk_at "rd"
    refine ⟨p, _, 1, _, rfl, rfl, SqT.mk hp, rfl, ?_⟩
    walk_at "rd"
    refine ⟨(show 1 ≤ sizeLine by decide), fun D hD => ?_⟩
    refine rd_nm ?_
    dsimp only
    refine rd_seqJ (fun σ H' => σ = [some (.ref tb), some (.ref p), some (.int (x.g : Nat)), some (.int (x.k : Nat)), some (.ref D)] ∧ Ex H H' ∧ H' D = some (.lst ((([word "ask"] ++ (if x.g = 0 then [] else [askNames t.cols x.g])).map tn).map V.str))) ?_ (fun N hN => ?_)
    · rintro σ H1 ⟨rfl, k1, hD1⟩
      refine rd_seqJ (fun σ H' => σ = [some (.ref tb), some (.ref p), some (.int (x.g : Nat)), some (.int (x.k : Nat)), some (.ref D)] ∧ Ex H H' ∧ H' D = some (.lst ((([word "ask"] ++ (if x.g = 0 then [] else [askNames t.cols x.g]) ++ (if x.k = 1 then [] else [word "times " ++ showNat x.k])).map tn).map V.str))) ?_ (fun N hN => ?_)
      · rintro σ H2 ⟨rfl, k2, hD2⟩
        walk_at "rd"
        obtain ⟨pl1, pl2⟩ := parts_len (x := x) hok.c4 hok.wf hk
        refine ⟨Or.inl ⟨rfl, _, SqL.of hD2⟩, ?_⟩
        walk_at "rd"
        have pl1' := pl1
        unfold askParts at pl1'
        rw [List.length_append] at pl1'
        refine ⟨D, _, _, rfl, rfl, hD2, by rw [List.length_map, List.length_map]; omega, ?_⟩
        walk_at "rd"
        have hfin : upd H2 D (.lst ((([word "ask"] ++ (if x.g = 0 then [] else [askNames t.cols x.g]) ++ (if x.k = 1 then [] else [word "times " ++ showNat x.k])).map tn).map V.str ++ [V.str (Str.ofString ";\n")])) D = some (.lst (((askParts t.cols x).map tn).map V.str)) := by
          rw [upd_same]
          unfold askParts
          rw [show Str.ofString ";\n" = tn (word ";" ++ [10]) by decide +kernel]
          simp only [List.map_append]
          rfl
        refine ⟨_, D, _, rfl, rfl, Or.inl (SqL.of hfin), ?_, ?_⟩
        · have := sum_len pl2
          have e3 : (Str.ofString " ").length = 1 := by decide +kernel
          rw [List.length_map, e3]
          have : (askParts t.cols x).length * 72 ≤ 4 * 72 := Nat.mul_le_mul_right _ pl1
          omega
        · rw [tn_join (show Str.ofString " " = tn (word " ") by decide +kernel), ask_parts]
          exact q _ (k2.mut hD)
      · walk_at "rd"
        refine rd_iteN (fun h1 => ?_) (fun h1 => ?_)
        · have h1 : x.k ≠ 1 := fun z => h1 (by rw [z]; rfl)
          walk_at "rd"
          refine ⟨Or.inl ⟨rfl, _, SqL.of hD1⟩, ?_⟩
          walk_at "rd"
          refine ⟨by decide +kernel, ?_⟩
          rw [show Str.empty ++ Str.ofString "times " = tn (word "times ") by decide +kernel]
          have e1 : (word "times ").length = 6 := by decide +kernel
          have e2 : showInt (x.k : Int) = showNat x.k := if_neg (by omega)
          have hk2 : (showNat x.k).length ≤ 2 := nat_len (by decide) (by omega)
          refine js_int rfl (by omega) (by rw [e2, List.length_append]; omega) ?_
          rw [e2]
          walk_at "rd"
          refine ⟨D, _, _, rfl, rfl, hD1, ?_, ?_⟩
          · rw [List.length_map, List.length_map, List.length_append]
            split
            · show 1 + 0 < _; omega
            · show 1 + 1 < _; omega
          refine hN _ _ ⟨rfl, k1.mut hD, ?_⟩
          rw [upd_same, if_neg h1, List.map_append (l₂ := [word "times " ++ showNat x.k]), List.map_append (l₂ := [word "times " ++ showNat x.k].map tn)]
          rfl
        · have h1 : x.k = 1 := by injection h1 with h1; omega
          walk_at "rd"
          refine hN _ _ ⟨rfl, k1, ?_⟩
          rw [if_pos h1, List.append_nil]
          exact hD1
    · have e1 : upd H D (.lst [.str (Str.ofString "ask")]) D = some (.lst ([V.str (Str.ofString "ask")])) := upd_same
      have k0 : Ex H (upd H D (.lst [.str (Str.ofString "ask")])) := Ex.new hD
      walk_at "rd"
      refine rd_iteN (fun h1 => ?_) (fun h1 => ?_)
      · have h1 : x.g ≠ 0 := fun z => h1 (by rw [z]; rfl)
        walk_at "rd"
        refine ⟨Or.inl ⟨rfl, _, SqL.of e1⟩, ?_⟩
        walk_at "rd"
        refine rd_fldAt (k0 _ _ o) T.k_Table T.a_Table_columns rfl ?_
        walk_at "rd"
        refine ⟨ca, t.cols, x.g, rfl, k0 _ _ hc, hok.c4, fun p1 H1 k1 hp1 hpl => ?_⟩
        have hwf := names_wf (g := x.g) hok.wf
        rw [nameVs_tn hwf] at hpl
        walk_at "rd"
        refine ⟨_, p1, _, rfl, rfl, Or.inl (SqL.of hpl), ?_, ?_⟩
        · have := sum_len (B := 16) (l := namesF t.cols x.g) fun y hy => (hwf y hy).2.1
          have e3 : (Str.ofString ", ").length = 2 := by decide +kernel
          rw [List.length_map, e3]
          have h4 := names_len t.cols x.g
          have := hok.c4
          have : (namesF t.cols x.g).length * 16 ≤ 4 * 16 := Nat.mul_le_mul_right _ (by omega)
          omega
        rw [tn_join ksep]
        have hD1 := k1 _ _ e1
        walk_at "rd"
        refine ⟨D, _, _, rfl, rfl, hD1, (show ([V.str (Str.ofString "ask")] : List V).length < sizeLine by decide), ?_⟩
        refine hN _ _ ⟨rfl, (k0.trans k1).mut hD, ?_⟩
        rw [upd_same, if_neg h1, show Str.ofString "ask" = tn (word "ask") by decide +kernel]
        rfl
      · have h1 : x.g = 0 := Int.natCast_eq_zero.mp (V.int.inj h1)
        walk_at "rd"
        refine hN _ _ ⟨rfl, k0, ?_⟩
        rw [e1, if_pos h1, show Str.ofString "ask" = tn (word "ask") by decide +kernel]
        rfl
/-! ### the whole form -/
theorem shown_lines (t : Table) : joined [] ([colsLine t] ++ t.rows.map showRow ++ t.asks.map (showAsk t.cols)) = Vamvsa.shown t := by
  have h : ∀ l : List (List UInt8), joined [] l = l.flatten := by
    intro l
    induction l with
    | nil => rfl
    | cons p r ih =>
      cases r with
      | nil => simp [joined]
      | cons q r =>
        show p ++ [] ++ joined [] (q :: r) = _
        rw [ih, List.append_nil, List.flatten_cons, List.flatten_cons, List.flatten_cons]
  rw [h]
  show _ = colsLine t ++ (t.rows.flatMap showRow ++ t.asks.flatMap (showAsk t.cols))
  simp only [List.flatten_append, List.flatten_cons, List.flatten_nil, List.append_nil, List.flatMap, List.append_assoc]
theorem lines_len {t : Table} (h : TOk t) : ∀ y ∈ [colsLine t] ++ t.rows.map showRow ++ t.asks.map (showAsk t.cols), y.length ≤ 300 := by
  intro y hy
  simp only [List.mem_append, List.mem_singleton, List.mem_map] at hy
  rcases hy with (hy | ⟨x, hx, rfl⟩) | ⟨x, hx, rfl⟩
  · rw [hy]
    have := (colsLine_len h).2
    omega
  · obtain ⟨h1, h2, h3⟩ := h.row x hx
    have := (row_len (by have := h.c4; omega) h2 h3).2.2
    omega
  · obtain ⟨h1, h2, h3⟩ := h.ask x hx
    exact ask_len h.c4 h.wf h3
def spOneForm (c : Cs) : Sp := fun vs H Q _ => ∃ (tb ca ra qa : Addr) (t : Table), vs = [.ref tb] ∧ TabAt c H tb ca ra qa t ∧ TOk t ∧ ∀ p H', Ex H H' → H p = none → H' p = some (.lst ((Vamvsa.shown t).map bv)) → (Vamvsa.shown t).length ≤ 10000 → Q (.ref p) H'
theorem ok_one_form (T : Txt K mg c) : DefOk P w K mg base CX0 3 "one_form" ["table"] (spOneForm c) := by
  obtain ⟨f_columns_line, fd_columns_line, g_columns_line, k_columns_line, b_columns_line, F_columns_line⟩ := ok_columns_line (P := P) (w := w) (base := base) T
  obtain ⟨f_row_line, fd_row_line, g_row_line, k_row_line, b_row_line, F_row_line⟩ := ok_row_line (P := P) (w := w) (base := base) T
  obtain ⟨f_question_line, fd_question_line, g_question_line, k_question_line, b_question_line, F_question_line⟩ := ok_question_line (P := P) (w := w) (base := base) T
  refine DefOk.make T.d_one_form s_one_form (fun vs H Q E h => ?_) fun f cdv A outer s H vs Q E hr h => ?_
  · obtain ⟨tb, ca, ra, qa, t, rfl, hT, hok, q⟩ := h
    rfl
  · obtain ⟨tb, ca, ra, qa, t, rfl, hT, hok, q⟩ := h
    refine ⟨_, (pss_cons (ps_set (i := 1) s_one_form.nd rfl (Or.inl rfl) (pe_lst (pa_cons (pe_call F_columns_line (hr.mono (by decide)) rfl g_columns_line k_columns_line b_columns_line .nil pass0 (pa_cons (pv 0) pa_nil)) pa_nil)))
      (pss_cons (ps_expr (pe_bm PySem.F.plainAttrs_list PySem.F.slot_list_extend PySem.F.type_list_extend mt_extend (pv 1) (pa_cons (pe_lc (own := [("row", 2)]) rfl s_one_form.nd (pi_list (pe_fld (pv 0) rfl)) (blkOk_by (own := [("row", 2)]) (N := N_one_form) (sc := defScope (top 68)) (by decide +kernel)) (fun _ _ _ _ _ => (pg_name (i := 2) s_one_form.nd rfl (Or.inl rfl))) (fun _ _ _ _ _ => pts_nil) (fun _ _ _ _ _ => (pe_call F_row_line (hr.mono (by decide)) rfl g_row_line k_row_line b_row_line .nil pass0 (pa_cons (pv 2) pa_nil)))) pa_nil)))
      (pss_cons (ps_expr (pe_bm PySem.F.plainAttrs_list PySem.F.slot_list_extend PySem.F.type_list_extend mt_extend (pv 1) (pa_cons (pe_lc (own := [("question", 3)]) rfl s_one_form.nd (pi_list (pe_fld (pv 0) rfl)) (blkOk_by (own := [("question", 3)]) (N := N_one_form) (sc := defScope (top 68)) (by decide +kernel)) (fun _ _ _ _ _ => (pg_name (i := 3) s_one_form.nd rfl (Or.inl rfl))) (fun _ _ _ _ _ => pts_nil) (fun _ _ _ _ _ => (pe_call F_question_line (hr.mono (by decide)) rfl g_question_line k_question_line b_question_line .nil pass0 (pa_cons (pv 0) (pa_cons (pv 3) pa_nil))))) pa_nil)))
      (pss_one (ps_ret (pe_lc (own := [("sign", 4)]) rfl s_one_form.nd (pi_str (pe_join pe_str (pv 1))) (blkOk_by (own := [("sign", 4)]) (N := N_one_form) (sc := defScope (top 68)) (by decide +kernel)) (fun _ _ _ _ _ => (pg_name (i := 4) s_one_form.nd rfl (Or.inl rfl))) (fun _ _ _ _ _ => pts_nil) (fun _ _ _ _ _ => (pe_callB call_ord (by rfl) T.n_ord (by decide +kernel) (pa_cons (pv 4) pa_nil))))))))), ?_⟩
    walk_at "rd"
    have hsz : sizeLine = 16777216 := rfl
    obtain ⟨⟨dx, o⟩, hc, ⟨rvs, hr, ar⟩, ⟨qvs, hq, aq⟩, _⟩ := id hT
    refine ⟨tb, ca, ra, qa, t, rfl, hT, hok, ?_⟩
    walk_at "rd"
    refine ⟨(show 1 ≤ sizeLine by decide), fun L hL => ?_⟩
    have k1 : Ex H (upd H L (.lst [.str (tn (colsLine t))])) := Ex.new hL
    walk_at "rd"
    have hL1 : upd H L (.lst [.str (tn (colsLine t))]) L = some (.lst ([V.str (tn (colsLine t))])) := upd_same
    refine ⟨Or.inl ⟨rfl, _, SqL.of hL1⟩, ?_⟩
    walk_at "rd"
    refine rd_fldAt (k1 _ _ o) T.k_Table T.a_Table_rows rfl ?_
    refine ⟨ra, rfl, ⟨_, SqL.of (k1 _ _ hr)⟩, fun D hD => ?_⟩
    have hlr : rvs.length = t.rows.length := ar.len
    have hlq : qvs.length = t.asks.length := aq.len
    have h16 := hok.r16
    have h8 := hok.q8
    have h4 := hok.c4
    refine lc_it (walk_list (xs := rvs)) (LPv (upd H L (.lst [.str (tn (colsLine t))])) D fun i => (((t.rows.take i).map showRow).map tn).map V.str) (LPv.start hD rfl) (fun i H' hi h => SqL.of (h.1 _ _ (k1 _ _ hr))) ?_ ?_
    · rintro i v H1 H2 hi hP ⟨rfl, hv⟩
      obtain ⟨x, hx, hrv⟩ := ar.get hv
      obtain ⟨r1, r2, r3⟩ := hok.row x (List.mem_of_getElem? hx)
      have kH : Ex H H2 := k1.trans hP.1
      walk_at "rd"
      refine ⟨rfl, ?_⟩
      walk_at "rd"
      refine ⟨v, x, rfl, hrv.stay (S := []) (fun b o _ e => kH b o e) (by simp), by omega, r2, r3, fun H3 k3 => ?_⟩
      refine hP.put k3 hD ?_ ?_
      · show ((((t.rows.take i).map showRow).map tn).map V.str).length < sizeLine
        rw [List.length_map, List.length_map, List.length_map, List.length_take]; omega
      · show (((t.rows.take (i + 1)).map showRow).map tn).map V.str = _ ++ _
        rw [take_snoc hx, List.map_append, List.map_append, List.map_append]; rfl
    rintro H2 ⟨k2, hD2⟩
    dsimp only at hD2
    rw [hlr, List.take_length] at hD2
    have hL2 := k2 _ _ hL1
    walk_at "rd"
    refine ⟨L, D, _, _, rfl, rfl, hL2, hD2, by rw [List.length_map, List.length_map, List.length_map]; show 1 + _ ≤ _; omega, ?_⟩
    walk_at "rd"
    have k3 : Ex H (upd H2 L (.lst ([V.str (tn (colsLine t))] ++ ((t.rows.map showRow).map tn).map V.str))) := (k1.trans k2).mut hL
    have hL3 : upd H2 L (.lst ([V.str (tn (colsLine t))] ++ ((t.rows.map showRow).map tn).map V.str)) L = some (.lst ([V.str (tn (colsLine t))] ++ ((t.rows.map showRow).map tn).map V.str)) := upd_same
    generalize upd H2 L (.lst ([V.str (tn (colsLine t))] ++ ((t.rows.map showRow).map tn).map V.str)) = H3 at k3 hL3 ⊢
    refine ⟨Or.inl ⟨rfl, _, SqL.of hL3⟩, ?_⟩
    walk_at "rd"
    refine rd_fldAt (k3 _ _ o) T.k_Table T.a_Table_questions rfl ?_
    refine ⟨qa, rfl, ⟨_, SqL.of (k3 _ _ hq)⟩, fun D' hD' => ?_⟩
    refine lc_it (walk_list (xs := qvs)) (LPv H3 D' fun i => (((t.asks.take i).map (showAsk t.cols)).map tn).map V.str) (LPv.start hD' rfl) (fun i H' hi h => SqL.of (h.1 _ _ (k3 _ _ hq))) ?_ ?_
    · rintro i v H4 H5 hi hP ⟨rfl, hv⟩
      obtain ⟨x, hx, hrv⟩ := aq.get hv
      obtain ⟨r1, r2, r3⟩ := hok.ask x (List.mem_of_getElem? hx)
      have kH : Ex H H5 := k3.trans hP.1
      walk_at "rd"
      refine ⟨rfl, ?_⟩
      walk_at "rd"
      refine ⟨tb, ca, ra, qa, t, v, x, rfl, hT.stay (S := []) (fun b o _ e => kH b o e) (by simp) (by simp) (by simp) (by simp) (by simp), hok, hrv.stay (S := []) (fun b o _ e => kH b o e) (by simp), r3, fun H6 k6 => ?_⟩
      refine hP.put k6 hD' ?_ ?_
      · show ((((t.asks.take i).map (showAsk t.cols)).map tn).map V.str).length < sizeLine
        rw [List.length_map, List.length_map, List.length_map, List.length_take]; omega
      · show (((t.asks.take (i + 1)).map (showAsk t.cols)).map tn).map V.str = _ ++ _
        rw [take_snoc hx, List.map_append, List.map_append, List.map_append]; rfl
    rintro H5 ⟨k5, hD5⟩
    dsimp only at hD5
    rw [hlq, List.take_length] at hD5
    have hL5 := k5 _ _ hL3
    walk_at "rd"
    refine ⟨L, D', _, _, rfl, rfl, hL5, hD5, by rw [List.length_append, List.length_map, List.length_map, List.length_map, List.length_map, List.length_map, List.length_map]; show 1 + _ + _ ≤ _; omega, ?_⟩
    walk_at "rd"
    have k6 := (k3.trans k5).mut (o := .lst ([V.str (tn (colsLine t))] ++ ((t.rows.map showRow).map tn).map V.str ++ ((t.asks.map (showAsk t.cols)).map tn).map V.str)) hL
    have hL6 : upd H5 L (.lst ([V.str (tn (colsLine t))] ++ ((t.rows.map showRow).map tn).map V.str ++ ((t.asks.map (showAsk t.cols)).map tn).map V.str)) L = some (.lst ((([colsLine t] ++ t.rows.map showRow ++ t.asks.map (showAsk t.cols)).map tn).map V.str)) := by
      rw [upd_same]
      simp only [List.map_append]
      rfl
    generalize upd H5 L (.lst ([V.str (tn (colsLine t))] ++ ((t.rows.map showRow).map tn).map V.str ++ ((t.asks.map (showAsk t.cols)).map tn).map V.str)) = H6 at k6 hL6 ⊢
    have hll := lines_len hok
    have hln : ([colsLine t] ++ t.rows.map showRow ++ t.asks.map (showAsk t.cols)).length ≤ 25 := by
      rw [List.length_append, List.length_append, List.length_map, List.length_map]
      show 1 + _ + _ ≤ 25
      omega
    have hsl : (Vamvsa.shown t).length ≤ 10000 := by
      rw [← shown_lines]
      exact Nat.le_trans (joined_len (s := []) hll) (Nat.le_trans (Nat.mul_le_mul_right 300 hln) (by decide))
    refine ⟨_, L, _, rfl, rfl, Or.inl (SqL.of hL6), ?_, ?_⟩
    · have := sum_len hll
      have e3 : (Str.ofString "").length = 0 := by decide +kernel
      rw [e3]
      have : ([colsLine t] ++ t.rows.map showRow ++ t.asks.map (showAsk t.cols)).length * 300 ≤ 25 * 300 := Nat.mul_le_mul_right _ hln
      omega
    rw [tn_join (show Str.ofString "" = tn [] by decide +kernel), shown_lines]
    refine ⟨_, rfl, fun R hR0 => ?_⟩
    refine lc_it (walk_str (z := tn (Vamvsa.shown t))) (LPv H6 R fun i => ((Vamvsa.shown t).take i).map bv) (LPv.start hR0 rfl) (fun _ _ _ _ => trivial) ?_ ?_
    · rintro i v H7 H8 hi hP ⟨rfl, cd, hcd, rfl⟩
      have hcd' : ((Vamvsa.shown t).map UInt8.toNat)[i]? = some cd := by simpa [tn] using hcd
      rw [List.getElem?_map] at hcd'
      obtain ⟨b, hb, rfl⟩ := Option.map_eq_some_iff.mp hcd'
      walk_at "rd"
      refine ⟨rfl, ?_⟩
      walk_at "rd"
      refine ⟨_, rfl, rfl, ?_⟩
      refine hP.put (fun _ _ e => e) hR0 ?_ ?_
      · show (((Vamvsa.shown t).take i).map bv).length < sizeLine
        rw [List.length_map, List.length_take]; omega
      · show ((Vamvsa.shown t).take (i + 1)).map bv = _ ++ _
        rw [take_snoc hb, List.map_append]; rfl
    rintro H7 ⟨k7, hR7⟩
    have ez : (tn (Vamvsa.shown t)).cps.size = (Vamvsa.shown t).length := tn_len _
    dsimp only at hR7
    rw [ez, List.take_length] at hR7
    exact q R H7 (k6.trans k7) (Ex.none k6 hR0) hR7 hsl
end
end Bk
end
section
/-! sets of groupings: plain lists -/
namespace Bk
open Vamvsa (Table Row Ask columnsOf)
def sz (t : Table) (g : Nat) : Nat := Vamvsa.sizeOf_ t g
/-- how many groupings there are -/
def gN (t : Table) : Nat := 2 ^ t.cols.length
def szs (t : Table) : List Nat := (List.range (gN t)).map (sz t)
def linesK (t : Table) (k : List Nat) : Nat := (k.map (sz t)).sum
/-- q can be worked out from g -/
def can (g q : Nat) : Bool := decide (g &&& q = q)
/-- how many lines a question reads -/
def rdq (t : Table) (k : List Nat) (q : Nat) : Nat := k.foldl (fun r g => if can g q = true then Nat.min r (sz t g) else r) t.rows.length
/-- what a question reads -/
def IsRd (t : Table) (k : List Nat) (q : Nat) : Option Nat → Prop
  | none => ∀ g ∈ k, can g q = false
  | some v => v ∈ k ∧ can v q = true ∧ ∀ g ∈ k, can g q = true → sz t v < sz t g ∨ (sz t v = sz t g ∧ v ≤ g)
def sizeRd (t : Table) : Option Nat → Nat
  | none => t.rows.length
  | some v => sz t v
def readK (t : Table) (k : List Nat) : Nat := (t.asks.map fun a => a.k * rdq t k a.g).sum
def costK (t : Table) (ch : Nat) (k : List Nat) : Nat := readK t k + 2 * k.length * ch
/-- of each set, by its number -/
def arr (f : List Nat → Nat) (n : Nat) : List Nat := (List.range (2 ^ n)).map fun c => f (bitsTo c n)
def allLines (l : List Nat) : List Nat := l.foldl (fun ls s => ls ++ ls.map fun x => x + s) [0]
def allRead (t : Table) (q n : Nat) : List Nat := (List.range n).foldl (fun ls g => ls ++ if can g q = true then ls.map fun x => if sz t g < x then sz t g else x else ls) [t.rows.length]
theorem bits_low {c n : Nat} (h : c < 2 ^ n) : bitsTo c (n + 1) = bitsTo c n := bitsTo_no (by rw [Nat.div_eq_of_lt h]; decide)
theorem bits_high {c n : Nat} (h : c < 2 ^ n) : bitsTo (2 ^ n + c) (n + 1) = bitsTo c n ++ [n] := by
  have e : (2 ^ n + c) / 2 ^ n % 2 = 1 := by
    rw [Nat.add_div_left _ (Nat.two_pow_pos n), Nat.div_eq_of_lt h]
  rw [bitsTo_yes e]
  congr 1
  unfold bitsTo
  refine List.filter_congr fun i hi => ?_
  have hi := List.mem_range.mp hi
  have e2 : 2 ^ n = 2 ^ i * (2 * 2 ^ (n - i - 1)) := by
    rw [← Nat.pow_succ', ← Nat.pow_add]; congr 1; omega
  rw [e2, Nat.mul_add_div (Nat.two_pow_pos i)]
  congr 1
  omega
theorem arr_succ {f : List Nat → Nat} {g : Nat → Nat} {n : Nat} (h : ∀ c, c < 2 ^ n → f (bitsTo c n ++ [n]) = g (f (bitsTo c n))) : arr f (n + 1) = arr f n ++ (arr f n).map g := by
  unfold arr
  rw [Nat.pow_succ, Nat.mul_two, List.range_add, List.map_append, List.map_map, List.map_map]
  congr 1
  · exact List.map_congr_left fun c hc => congrArg f (bits_low (List.mem_range.mp hc))
  · refine List.map_congr_left fun c hc => ?_
    have hc := List.mem_range.mp hc
    show f (bitsTo (2 ^ n + c) (n + 1)) = g (f (bitsTo c n))
    rw [bits_high hc, h c hc]
theorem arr_len (f : List Nat → Nat) (n : Nat) : (arr f n).length = 2 ^ n := by unfold arr; rw [List.length_map, List.length_range]
theorem linesK_snoc (t : Table) (k : List Nat) (g : Nat) : linesK t (k ++ [g]) = linesK t k + sz t g := by unfold linesK; simp
theorem allLines_szs (t : Table) : ∀ n, allLines ((List.range n).map (sz t)) = arr (linesK t) n
  | 0 => rfl
  | n + 1 => by
    have ih := allLines_szs t n
    unfold allLines at ih ⊢
    rw [List.range_succ, List.map_append, List.foldl_append, ih]
    exact (arr_succ fun c _ => linesK_snoc t _ n).symm
theorem allLines_ones : ∀ n, allLines (List.replicate n 1) = arr List.length n
  | 0 => rfl
  | n + 1 => by
    have ih := allLines_ones n
    unfold allLines at ih ⊢
    rw [List.replicate_succ', List.foldl_append, ih]
    exact (arr_succ (g := fun x => x + 1) fun c _ => by rw [List.length_append]; rfl).symm
theorem rdq_snoc (t : Table) (k : List Nat) (q g : Nat) : rdq t (k ++ [g]) q = if can g q = true then Nat.min (rdq t k q) (sz t g) else rdq t k q := by unfold rdq; rw [List.foldl_append]; rfl
theorem allRead_eq (t : Table) (q : Nat) : ∀ n, allRead t q n = arr (fun k => rdq t k q) n
  | 0 => rfl
  | n + 1 => by
    have ih := allRead_eq t q n
    unfold allRead at ih ⊢
    rw [List.range_succ, List.foldl_append, ih]
    show arr _ n ++ (if can n q = true then (arr _ n).map _ else arr _ n) = _
    by_cases h : can n q = true
    · rw [if_pos h]
      refine (arr_succ (g := fun x => if sz t n < x then sz t n else x) fun c _ => ?_).symm
      show rdq t _ q = _
      rw [rdq_snoc, if_pos h]
      show min (rdq t (bitsTo c n) q) (sz t n) = _
      rw [Nat.min_def]
      split <;> split <;> omega
    · rw [if_neg h]
      have := arr_succ (f := fun k => rdq t k q) (g := fun x => x) (n := n) fun c _ => by
        show rdq t _ q = _
        rw [rdq_snoc, if_neg h]
      rw [this, List.map_id']
/-- what all questions cost, step by step -/
def allCosts (t : Table) (as : List Ask) (n : Nat) : List Nat := as.foldl (fun cs a => (cs.zip (arr (fun k => rdq t k a.g) n)).map fun x => x.1 + a.k * x.2) (List.replicate (2 ^ n) 0)
theorem allCosts_eq (t : Table) (n : Nat) (as : List Ask) : allCosts t as n = arr (fun k => (as.map fun a => a.k * rdq t k a.g).sum) n := by
  have gen : ∀ (as : List Ask) (f : List Nat → Nat), as.foldl (fun cs a => (cs.zip (arr (fun k => rdq t k a.g) n)).map fun x => x.1 + a.k * x.2) (arr f n) = arr (fun k => f k + (as.map fun a => a.k * rdq t k a.g).sum) n := by
    intro as
    induction as with
    | nil => intro f; rfl
    | cons a r ih =>
      intro f
      rw [List.foldl_cons]
      have e : ((arr f n).zip (arr (fun k => rdq t k a.g) n)).map (fun x => x.1 + a.k * x.2) = arr (fun k => f k + a.k * rdq t k a.g) n := by
        unfold arr
        rw [List.zip_map', List.map_map]
        rfl
      rw [e, ih]
      unfold arr
      refine List.map_congr_left fun c _ => ?_
      simp only [List.map_cons, List.sum_cons]
      omega
  have e0 : List.replicate (2 ^ n) 0 = arr (fun _ => 0) n := by
    unfold arr
    refine List.ext_getElem (by simp) fun i h1 h2 => by simp
  unfold allCosts
  rw [e0, gen]
  unfold arr
  exact List.map_congr_left fun c _ => Nat.zero_add _
theorem readings_eq (t : Table) (n : Nat) : allCosts t t.asks n = arr (readK t) n := allCosts_eq t n t.asks
end Bk

namespace Bk
open PySem PySem.Spec PyProof.Rows L2
theorem rd_dnotin {ty td : TE} {σ : L2.St} {H : Hp} {Q : VK} (q : ty σ H fun y H1 => td σ H1 fun x H2 => ∃ a o, x = .ref a ∧ DGet H2 a y o ∧ Q (.bl (!o.isSome)) H2) : tDNotIn ty td σ H Q := q
theorem rd_dget {ty td : TE} {σ : L2.St} {H : Hp} {Q : VK} (q : td σ H fun x H1 => ty σ H1 fun y H2 => ∃ a v, x = .ref a ∧ DGet H2 a y (some v) ∧ Q v H2) : tDGet td ty σ H Q := q
end Bk
end
section
local macro_rules | `(tactic| walk_at "rd1") => `(tactic| first
  | with_reducible refine Bk.rd_seq ?_
  | ((with_reducible refine' Bk.rd_var ?k1 ?_); (case k1 => exact rfl))
  | with_reducible refine Bk.rd_c ?_
  | with_reducible refine Bk.rd_op ?_
  | with_reducible refine Bk.rd_I0 ?_
  | ((with_reducible refine' Bk.rd_I ?k1 ?_); (case k1 => first | assumption | omega))
  | with_reducible refine Bk.rd_test ?_
  | with_reducible refine Bk.rd_tB ?_
  | with_reducible refine Bk.rd_bl ?_
  | ((with_reducible refine' Bk.rd_eq ?k1 ?_); (case k1 => exact rfl))
  | ((with_reducible refine' Bk.rd_ne ?k1 ?_); (case k1 => exact rfl))
  | with_reducible refine Bk.rd_and ?_
  | with_reducible refine Bk.rd_or ?_
  | with_reducible refine Bk.rd_not ?_
  | with_reducible refine Bk.rd_andV ?_
  | with_reducible refine Bk.rd_isN ?_
  | with_reducible refine Bk.rd_notN ?_
  | with_reducible refine Bk.rd_asg ?_
  | with_reducible refine Bk.rd_nm ?_
  | with_reducible refine Bk.rd_ret ?_
  | with_reducible refine Bk.rd_drop ?_
  | with_reducible refine Bk.rd_if ?_
  | with_reducible refine Bk.rd_ifE ?_
  | ((with_reducible refine' Bk.rd_aug ?k1 ?_); (case k1 => exact rfl))
  | with_reducible refine Bk.rd_ipI ?_
  | with_reducible refine Bk.rd_nil ?_
  | with_reducible refine Bk.rd_cons ?_
  | with_reducible refine Bk.rd_CB ?_
  | with_reducible refine Bk.rd_call ?_
  | with_reducible refine Bk.rd_callS ?_
  | with_reducible refine Bk.rd_un ?_
  | with_reducible refine Bk.rd_U ?_
  | with_reducible refine Bk.rd_fld ?_
  | with_reducible refine Bk.rd_sfld ?_
  | with_reducible refine Bk.rd_tup ?_
  | with_reducible refine Bk.rd_lst ?_
  | with_reducible refine Bk.rd_next ?_
  | with_reducible refine Bk.rd_brk ?_
  | with_reducible refine Bk.rd_BM ?_
  | with_reducible refine Bk.rd_BM0 ?_
  | with_reducible refine Bk.rd_for ?_
  | with_reducible refine Bk.rd_iStr ?_
  | with_reducible refine Bk.rd_fldaug ?_
  | with_reducible refine Bk.rd_mkO ?_
  | with_reducible refine Bk.rd_js ?_
  | with_reducible refine Bk.rd_js0 ?_
  | with_reducible refine Bk.rd_fmt ?_
  | with_reducible refine Bk.rd_erI ?_
  | with_reducible refine Bk.rd_erSet ?_
  | with_reducible refine Bk.rd_lc ?_
  | with_reducible refine Bk.rd_yes' ?_
  | with_reducible refine Bk.rd_iList ?_
  | with_reducible refine Bk.rd_iTup ?_
  | with_reducible refine Bk.rd_iRng1 ?_
  | with_reducible refine Bk.rd_iEnum ?_
  | with_reducible refine Bk.rd_iZip ?_
  | with_reducible refine Bk.rd_iEnumT ?_
  | with_reducible refine Bk.rd_M1 ?_
  | with_reducible refine Bk.rd_dget2 ?_
  | with_reducible refine Bk.rd_dput ?_
  | with_reducible refine Bk.rd_dnotin ?_
  | with_reducible refine Bk.rd_dget ?_
  | with_reducible refine Bk.rd_sl ?_
  | with_reducible refine Bk.rd_noPart ?_
  | with_reducible refine Bk.rd_part ?_
  | with_reducible refine Bk.rd_int ?_
  | with_reducible refine Bk.rd_str ?_
  | with_reducible refine Bk.rd_isstr ?_
  | with_reducible refine Bk.rd_make ?_
  | with_reducible refine Bk.rd_meth ?_
  | with_reducible refine L2.iteT ?_
  | with_reducible refine L2.iteF ?_)
local macro_rules | `(tactic| walk_at "rd") => `(tactic| repeat (walk_at "rd1"))
local macro_rules | `(tactic| walk_at "few") => `(tactic| first | exact (show (0 : Nat) < 1000 by decide) | exact (show (1 : Nat) < 1000 by decide) | exact (show (2 : Nat) < 1000 by decide) | exact (show (3 : Nat) < 1000 by decide) | exact (show (4 : Nat) < 1000 by decide) | exact (show (5 : Nat) < 1000 by decide) | exact (show (6 : Nat) < 1000 by decide) | exact (show (7 : Nat) < 1000 by decide))

/-! sets of groupings: the defs of choices.py -/
namespace Bk
open PySem hiding Tok
open PySem.Spec hiding Row
open PyProof.Rows L2
open Vamvsa (Table Row Ask columnsOf)
section
variable {P : Program} {w : World} {K : PySem.W.Frag} {mg : Str → Option Value} {base : Heap} {c : Cs}
theorem nat_and (g q : Nat) : Builtin.bitAnd (g : Int) (q : Int) = ((g &&& q : Nat) : Int) := by
  rw [PyProof.Rows.bitAnd_pp (Int.natCast_nonneg _) (Int.natCast_nonneg _)]; rfl
def spHasAll : Sp := fun vs H Q _ => ∃ g q : Nat, vs = [.int g, .int q] ∧ Q (.bl (can g q)) H
theorem ok_has_all (T : Txt K mg c) : DefOk P w K mg base CX0 1 "has_all" ["grouping", "question"] spHasAll := by
  refine DefOk.make T.d_has_all s_has_all (fun vs H Q E h => ?_) fun f cdv A outer s H vs Q E hr h => ?_
  · obtain ⟨g, q', rfl, q⟩ := h
    rfl
  · obtain ⟨g, q', rfl, q⟩ := h
    refine ⟨_, (pss_one (ps_ret (pe_cmpR op_eq (pe_op op_and (pv 0) (pv 1)) (pv 1) (nomark _)))), ?_⟩
    walk_at "rd"
    rw [nat_and]
    have : decide (V.int ((g &&& q' : Nat) : Int) = V.int (q' : Int)) = can g q' := by
      unfold can
      by_cases h : g &&& q' = q'
      · rw [decide_eq_true h, h, decide_eq_true rfl]
      · rw [decide_eq_false h, decide_eq_false fun z => h (by injection z with z; exact_mod_cast z)]
    rw [this]
    exact q
theorem mulS {i j : Int} (h : -1000000000 ≤ i ∧ i ≤ 1000000000) : CMul i j := .inl ⟨by omega, by omega⟩
def spUpkeep : Sp := fun vs H Q _ => ∃ n m : Int, vs = [.int n, .int m] ∧ -1000000 ≤ n ∧ n ≤ 1000000 ∧ Q (.int (2 * n * m)) H
theorem ok_upkeep (T : Txt K mg c) : DefOk P w K mg base CX0 1 "upkeep" ["count", "changes"] spUpkeep := by
  refine DefOk.make T.d_upkeep s_upkeep (fun vs H Q E h => ?_) fun f cdv A outer s H vs Q E hr h => ?_
  · obtain ⟨n, m, rfl, h1, h2, q⟩ := h
    rfl
  · obtain ⟨n, m, rfl, h1, h2, q⟩ := h
    refine ⟨_, (pss_one (ps_ret (pe_op op_mul (pe_op op_mul (pe_glob rfl T.c_COST_OF_CHANGE.choose_spec.1 T.c_COST_OF_CHANGE.choose_spec.2) (pv 0)) (pv 1)))), ?_⟩
    walk_at "rd"
    refine rd_I (mulS (by decide)) ?_
    walk_at "rd"
    refine rd_I (mulS ⟨by omega, by omega⟩) ?_
    exact q
/-- a row's numbers in the grouping's columns -/
def keyL (l : List Nat) (g : Nat) : List Nat := (bitsTo g l.length).map fun i => l.getD i 0
def spTold (K : PySem.W.Frag) : Sp := fun vs H Q _ => ∃ (a : Addr) (l : List Nat) (g : Nat), vs = [.ref a, .int g] ∧ SqT K H a (intVs l) ∧ l.length ≤ 4 ∧ ∀ p H', Ex H H' → H p = none → H' p = some (.tup (intVs (keyL l g))) → Q (.ref p) H'
theorem ok_told_apart (T : Txt K mg c) : DefOk P w K mg base CX0 1 "told_apart" ["values", "grouping"] (spTold K) := by
  refine DefOk.make T.d_told_apart s_told_apart (fun vs H Q E h => ?_) fun f cdv A outer s H vs Q E hr h => ?_
  · obtain ⟨a, l, g, rfl, hs, hl, q⟩ := h
    rfl
  · obtain ⟨a, l, g, rfl, hs, hl, q⟩ := h
    refine ⟨_, (pss_one (ps_ret (pe_callTy call_tuple_of (by rfl) T.n_tuple (by decide +kernel) (pa_cons (pe_lc (own := [("place", 2), ("value", 3)]) rfl s_told_apart.nd (pi_enumT rfl T.n_enumerate (pa_cons (pv 0) pa_nil)) (blkOk_by (own := [("place", 2), ("value", 3)]) (N := N_told_apart) (sc := defScope (top 5)) (by decide +kernel)) (fun _ _ _ _ _ => (pg_tupK (K := K) (n := 2) (by rfl) (by rfl) (pgs_cons (pg_name (i := 2) s_told_apart.nd rfl (Or.inl rfl)) (pgs_cons (pg_name (i := 3) s_told_apart.nd rfl (Or.inl rfl)) pgs_nil)))) (fun _ _ _ _ _ => (pts_one (pt_cmpR op_eq (pe_op op_and (pe_op op_shr (pv 1) (pv 2)) pe_int) pe_int (nomark _)))) (fun _ _ _ _ _ => (pv 3))) pa_nil)))), ?_⟩
    walk_at "rd"
    refine ⟨a, _, rfl, hs, fun D hD => ?_⟩
    have hsz : sizeLine = 16777216 := rfl
    have hlen : (intVs l).length = l.length := by unfold intVs; rw [List.length_map]
    refine lc_it walk_enumT (LPv H D fun i => intVs ((bitsTo g i).map fun i => l.getD i 0)) (LPv.start hD rfl) (fun i H' hi h => tup_ex h.1 hs) ?_ ?_
    · rintro i x H1 H2 hi hP ⟨t, x1, y1, rfl, ht, rfl, h1, h2⟩
      injection h1 with h1
      subst h1
      have hi' : i < l.length := by omega
      have hy : y1 = V.int ((l.getD i 0 : Nat) : Int) := by
        have h2 : (l.map fun (n : Nat) => V.int (n : Int))[i]? = some y1 := h2
        rw [List.getElem?_map, List.getElem?_eq_getElem hi'] at h2
        injection h2 with h2
        rw [← h2, List.getD_eq_getElem?_getD, List.getElem?_eq_getElem hi']; rfl
      have k1 : Ex H1 (upd H1 t (.tup [.int i, y1])) := Ex.new ht
      have hll : (intVs ((bitsTo g i).map fun i => l.getD i 0)).length < sizeLine := by
        unfold intVs
        rw [List.length_map, List.length_map]
        have := bitsTo_len g i
        omega
      refine rd_tup2 upd_same ⟨rfl, ?_⟩
      walk_at "rd"
      rw [shift_bit]
      refine rd_ite (fun hb => ?_) (fun hb => ?_)
      · walk_at "rd"
        subst hy
        refine hP.put k1 hD hll ?_
        have hb : g / 2 ^ i % 2 = 1 := by injection hb with hb; omega
        show intVs ((bitsTo g (i + 1)).map _) = intVs ((bitsTo g i).map _) ++ [_]
        rw [bitsTo_yes hb, List.map_append]
        unfold intVs
        rw [List.map_append]; rfl
      · refine hP.skip k1 ?_
        have hb : ¬ g / 2 ^ i % 2 = 1 := fun z => hb (by rw [z]; rfl)
        show intVs ((bitsTo g (i + 1)).map _) = intVs ((bitsTo g i).map _)
        rw [bitsTo_no hb]
    · rintro H' ⟨k, h⟩
      rw [hlen] at h
      walk_at "rd"
      refine ⟨D, _, rfl, Or.inl ⟨SqL.of h, fun p hp => ?_⟩⟩
      exact q p _ (k.trans (Ex.new hp)) (Ex.none k hp) upd_same
/-! ### sizes -/
def keysOf (t : Table) (g : Nat) : List (List Nat) := t.rows.map fun x => keyL x.vs g
def spSizeOf (K : PySem.W.Frag) : Sp := fun vs H Q _ => ∃ (ra : Addr) (rvs : List V) (t : Table) (g : Nat), vs = [.ref ra, .int g] ∧ H ra = some (.lst rvs) ∧ All2 (RowV H) rvs t.rows ∧ TOk t ∧
  ∀ H' (L : List (List Int)), Ex H H' → L.Nodup → (∀ x, x ∈ L ↔ ∃ y ∈ keysOf t g, x = y.map fun (n : Nat) => (n : Int)) → Q (.int L.length) H'
theorem intVs_ints (l : List Nat) : intVs l = (l.map fun (n : Nat) => (n : Int)).map V.int := by unfold intVs; rw [List.map_map]; rfl
theorem ok_size_of (T : Txt K mg c) : DefOk P w K mg base CX0 2 "size_of" ["rows", "grouping"] (spSizeOf K) := by
  obtain ⟨f_told_apart, fd_told_apart, g_told_apart, k_told_apart, b_told_apart, F_told_apart⟩ := ok_told_apart (P := P) (w := w) (base := base) T
  refine DefOk.make T.d_size_of s_size_of (fun vs H Q E h => ?_) fun f cdv A outer s H vs Q E hr h => ?_
  · obtain ⟨ra, rvs, t, g, rfl, hrv, ar, hok, q⟩ := h
    rfl
  · obtain ⟨ra, rvs, t, g, rfl, hrv, ar, hok, q⟩ := h
    refine ⟨_, (pss_one (ps_ret (pe_callB cr_lenST (by rfl) T.n_len (by decide +kernel) (pa_cons (pe_callTy (cr_setOfT rfl hr.units) (by rfl) T.n_set (by decide +kernel) (pa_cons (pe_lc (own := [("row", 2)]) rfl s_size_of.nd (pi_list (pv 0)) (blkOk_by (own := [("row", 2)]) (N := N_size_of) (sc := defScope (top 4)) (by decide +kernel)) (fun _ _ _ _ _ => (pg_name (i := 2) s_size_of.nd rfl (Or.inl rfl))) (fun _ _ _ _ _ => pts_nil) (fun _ _ _ _ _ => (pe_call F_told_apart (hr.mono (by decide)) rfl g_told_apart k_told_apart b_told_apart .nil pass0 (pa_cons (pe_ix (ix_tupK (K := K) (by rfl)) (pv 2) pe_int (fun _ _ => rfl)) (pa_cons (pv 1) pa_nil))))) pa_nil)) pa_nil)))), ?_⟩
    walk_at "rd"
    refine ⟨ra, rfl, ⟨_, SqL.of hrv⟩, fun D hD => ?_⟩
    have hsz : sizeLine = 16777216 := rfl
    have hlr : rvs.length = t.rows.length := ar.len
    have h16 := hok.r16
    have h4 := hok.c4
    refine lc_it (walk_list (xs := rvs)) (fun i H' => ∃ ks : List (Addr × List Int), Ex H H' ∧ H' D = some (.lst (ks.map fun p => V.ref p.1)) ∧ (∀ p ∈ ks, H' p.1 = some (.tup (p.2.map V.int)) ∧ p.1 ≠ D) ∧ ks.map (·.2) = ((keysOf t g).take i).map fun y => y.map fun (n : Nat) => (n : Int))
      ⟨[], Ex.new hD, upd_same, (fun p hp => absurd hp List.not_mem_nil), rfl⟩ (fun i H' hi h => SqL.of (h.choose_spec.1 _ _ hrv)) ?_ ?_
    · rintro i v H1 H2 hi ⟨ks, k1, hD1, hK, hks⟩ ⟨rfl, hv⟩
      obtain ⟨x, hx, p, vt, rfl, hp, hvt⟩ := ar.get hv
      obtain ⟨r1, r2, r3⟩ := hok.row x (List.mem_of_getElem? hx)
      have hkl : ks.length ≤ 16 := by
        have := congrArg List.length hks
        rw [List.length_map, List.length_map, List.length_take] at this
        omega
      walk_at "rd"
      refine ⟨rfl, ?_⟩
      walk_at "rd"
      refine ⟨p, _, 0, _, rfl, rfl, SqT.mk (k1 _ _ hp), rfl, ?_⟩
      walk_at "rd"
      refine ⟨vt, x.vs, g, rfl, SqT.mk (k1 _ _ hvt), by omega, fun p' H3 k3 hp' hH3 => ?_⟩
      have hne : p' ≠ D := fun z => by rw [z, hD1] at hp'; cases hp'
      refine ⟨_, k3 _ _ hD1, by rw [List.length_map]; omega, ks ++ [(p', (keyL x.vs g).map fun (n : Nat) => (n : Int))], (k1.trans k3).mut hD, by rw [upd_same, List.map_append]; rfl, fun y hy => ?_, ?_⟩
      · rcases List.mem_append.mp hy with hy | hy
        · obtain ⟨h1, h2⟩ := hK y hy
          exact ⟨by rw [upd_ne h2]; exact k3 _ _ h1, h2⟩
        · rw [List.mem_singleton.mp hy]
          exact ⟨by rw [upd_ne hne, ← intVs_ints]; exact hH3, hne⟩
      · have hy : (keysOf t g)[i]? = some (keyL x.vs g) := by unfold keysOf; rw [List.getElem?_map, hx]; rfl
        rw [List.map_append, hks, take_snoc hy, List.map_append]; rfl
    · rintro H1 ⟨ks, k1, hD1, hK, hks⟩
      have ek : (keysOf t g).take rvs.length = keysOf t g := List.take_of_length_le (by unfold keysOf; rw [List.length_map]; omega)
      rw [ek] at hks
      walk_at "rd"
      have hkl : ks.length ≤ 16 := by
        have := congrArg List.length hks
        unfold keysOf at this
        rw [List.length_map, List.length_map, List.length_map] at this
        omega
      refine ⟨D, ks, rfl, SqL.of hD1, fun p hp => SqT.mk (hK p hp).1, by omega, fun a L ha hL1 hL2 => ?_⟩
      walk_at "rd"
      refine ⟨a, L, rfl, upd_same, fun p hp => SqT.mk ?_, fun nd => ?_⟩
      · have h1 := (hK p (hL1 p hp)).1
        rw [upd_ne (ne_of_none h1 ha)]
        exact h1
      · rw [← List.length_map (f := fun x : Addr × List Int => x.2) (as := L)]
        refine q _ (L.map (·.2)) (k1.trans (Ex.new ha)) nd fun x => ?_
        have hm : x ∈ L.map (·.2) ↔ x ∈ ks.map (·.2) := by
          constructor
          · intro h
            obtain ⟨p, hp, rfl⟩ := List.mem_map.mp h
            exact List.mem_map.mpr ⟨p, hL1 p hp, rfl⟩
          · intro h
            obtain ⟨p, hp, rfl⟩ := List.mem_map.mp h
            exact hL2 p hp
        rw [hm, hks, List.mem_map]
        constructor
        · rintro ⟨y, h1, h2⟩; exact ⟨y, h1, h2.symm⟩
        · rintro ⟨y, h1, h2⟩; exact ⟨y, h1, h2.symm⟩
/-! ### all sets -/
def spAllLines (K : PySem.W.Frag) : Sp := fun vs H Q _ => ∃ (a : Addr) (l : List Nat), vs = [.ref a] ∧ SqL K H a (intVs l) ∧ l.length ≤ 16 ∧ ∀ p H', Ex H H' → H p = none → H' p = some (.lst (intVs (allLines l))) → Q (.ref p) H'
theorem allLines_len (l : List Nat) : (allLines l).length = 2 ^ l.length := by
  have gen : ∀ (l ls : List Nat), (l.foldl (fun ls s => ls ++ ls.map fun x => x + s) ls).length = ls.length * 2 ^ l.length := by
    intro l
    induction l with
    | nil => intro ls; rw [List.foldl_nil, List.length_nil, Nat.pow_zero, Nat.mul_one]
    | cons s r ih =>
      intro ls
      rw [List.foldl_cons, ih, List.length_append, List.length_map, List.length_cons, Nat.pow_succ, ← Nat.mul_two, Nat.mul_assoc, Nat.mul_comm 2]
  unfold allLines
  rw [gen]
  exact Nat.one_mul _
theorem allLines_snoc (l : List Nat) (s : Nat) : allLines (l ++ [s]) = allLines l ++ (allLines l).map fun x => x + s := by unfold allLines; rw [List.foldl_append]; rfl
theorem intVs_len (l : List Nat) : (intVs l).length = l.length := by unfold intVs; rw [List.length_map]
theorem intVs_get {l : List Nat} {i : Nat} {v : V} (h : (intVs l)[i]? = some v) : ∃ n, l[i]? = some n ∧ v = V.int ((n : Nat) : Int) := by
  unfold intVs at h
  rw [List.getElem?_map] at h
  obtain ⟨n, hn, e⟩ := Option.map_eq_some_iff.mp h
  exact ⟨n, hn, e.symm⟩
theorem intVs_at {l : List Nat} {i n : Nat} (h : l[i]? = some n) : (intVs l)[i]? = some (V.int (n : Int)) := by
  unfold intVs
  rw [List.getElem?_map, h]; rfl
theorem intVs_app (a b : List Nat) : intVs (a ++ b) = intVs a ++ intVs b := by unfold intVs; rw [List.map_append]
theorem intVs_snoc {l : List Nat} {i n : Nat} {f : Nat → Nat} (h : l[i]? = some n) : intVs ((l.take (i + 1)).map f) = intVs ((l.take i).map f) ++ [V.int (f n : Nat)] := by
  rw [take_snoc h, List.map_append, intVs_app]; rfl
theorem pow16 {n : Nat} (h : n ≤ 16) : 2 ^ n ≤ 65536 := Nat.pow_le_pow_right (by decide) h
theorem ok_all_lines (T : Txt K mg c) : DefOk P w K mg base CX0 1 "all_lines" ["sizes"] (spAllLines K) := by
  refine DefOk.make T.d_all_lines s_all_lines (fun vs H Q E h => ?_) fun f cdv A outer s H vs Q E hr h => ?_
  · obtain ⟨a, l, rfl, hs, hl, q⟩ := h
    rfl
  · obtain ⟨a, l, rfl, hs, hl, q⟩ := h
    refine ⟨_, (pss_cons (ps_set (i := 1) s_all_lines.nd rfl (Or.inl rfl) (pe_lst (pa_cons pe_int pa_nil)))
      (pss_cons (ps_for PassesOwn.never rfl (pi_list (pv 0)) (pg_name (i := 2) s_all_lines.nd rfl (Or.inr rfl))
      (pss_one (ps_set (i := 1) s_all_lines.nd rfl (Or.inl rfl) (pe_op op_cat (pv 1) (pe_lc (own := [("fewer", 3)]) rfl s_all_lines.nd (pi_list (pv 1)) (blkOk_by (own := [("fewer", 3)]) (N := N_all_lines) (sc := defScope (top 7)) (by decide +kernel)) (fun _ _ _ _ _ => (pg_name (i := 3) s_all_lines.nd rfl (Or.inl rfl))) (fun _ _ _ _ _ => pts_nil) (fun _ _ _ _ _ => (pe_op op_add (pv 3) (pv 2))))))))
      (pss_one (ps_ret (pv 1))))), ?_⟩
    walk_at "rd"
    have hsz : sizeLine = 16777216 := rfl
    refine ⟨(show 1 ≤ sizeLine by decide), fun p hp => ?_⟩
    walk_at "rd"
    refine ⟨a, rfl, ⟨_, seq_ex (Ex.new hp) hs⟩, ?_⟩
    refine for_it (walk_list (xs := intVs l)) (fun i σ H' => ∃ (L : Addr) (x : Option V), σ = [some (.ref a), some (.ref L), x, none] ∧ Ex H H' ∧ H L = none ∧ H' L = some (.lst (intVs (allLines (l.take i))))) ⟨p, none, rfl, Ex.new hp, hp, upd_same⟩ (fun i σ H' hi h => seq_ex h.choose_spec.choose_spec.2.1 hs) ?_ ?_
    · rintro i v σ H1 H2 hi ⟨L, x0, rfl, k1, hL0, hL⟩ ⟨rfl, hv⟩
      obtain ⟨s, hsi, rfl⟩ := intVs_get hv
      rw [intVs_len] at hi
      walk_at "rd"
      have hll : (allLines (l.take i)).length ≤ 65536 := by
        rw [allLines_len]
        exact pow16 (by rw [List.length_take]; omega)
      have hl2 : (allLines (l.take i)).length + (allLines (l.take i)).length ≤ 65536 := by
        rw [allLines_len, ← Nat.mul_two, ← Nat.pow_succ]
        exact pow16 (by rw [List.length_take]; omega)
      refine ⟨L, rfl, ⟨_, SqL.of hL⟩, fun D hD => ?_⟩
      refine lc_it (walk_list (xs := intVs (allLines (l.take i)))) (LPv H2 D fun j => intVs (((allLines (l.take i)).take j).map fun x => x + s)) (LPv.start hD rfl) (fun j H' hj h => SqL.of (h.1 _ _ hL)) ?_ ?_
      · rintro j v H3 H4 hj hP ⟨rfl, hv⟩
        obtain ⟨n, hn, rfl⟩ := intVs_get hv
        walk_at "rd"
        refine ⟨rfl, ?_⟩
        walk_at "rd"
        refine hP.put (fun _ _ e => e) hD ?_ (intVs_snoc hn)
        rw [intVs_len, List.length_map, List.length_take]; omega
      · rintro H3 ⟨k3, hD3⟩
        rw [intVs_len] at hD3
        dsimp only at hD3
        rw [List.take_length] at hD3
        walk_at "rd"
        refine ⟨L, D, _, _, rfl, rfl, k3 _ _ hL, hD3, by rw [intVs_len, intVs_len, List.length_map]; omega, fun p' hp' => ?_⟩
        walk_at "rd"
        have kk := k1.trans k3
        refine ⟨p', _, rfl, kk.trans (Ex.new hp'), Ex.none kk hp', ?_⟩
        rw [upd_same, take_snoc hsi, allLines_snoc, intVs_app]
    · rintro σ H1 ⟨L, x0, rfl, k1, hL0, hL⟩
      walk_at "rd"
      rw [intVs_len, List.take_length] at hL
      exact q L H1 k1 hL0 hL
/-! ### the groupings' object -/
def grpF (n : Nat) (aa sa : Addr) : List (Str × V) := [("whole", .int n), ("asked", .ref aa), ("sizes", .ref sa)]
def GrpAt (c : Cs) (H : Hp) (g : Addr) (t : Table) : Prop := ∃ (dx aa sa : Addr) (qvs : List V), H g = some (.ins c.cGroupings dx (grpF t.rows.length aa sa)) ∧ H aa = some (.lst qvs) ∧ All2 (AskV H) qvs t.asks ∧ H sa = some (.lst (intVs (szs t)))
theorem GrpAt.stay {S : List Addr} {H H' : Hp} {g : Addr} {t : Table} (h : GrpAt c H g t) (k : But S H H') (hS : ∀ x ∈ S, (∀ dx n aa sa, H x ≠ some (.ins c.cGroupings dx (grpF n aa sa))) ∧ (∀ xs, H x ≠ some (.lst xs)) ∧ ∀ xs, H x ≠ some (.tup xs)) : GrpAt c H' g t := by
  obtain ⟨dx, aa, sa, qvs, h1, h2, h3, h4⟩ := h
  exact ⟨dx, aa, sa, qvs, k _ _ (fun z => (hS _ z).1 _ _ _ _ h1) h1, k _ _ (fun z => (hS _ z).2.1 _ h2) h2, h3.imp fun _ _ z => z.stay k fun x hx => (hS x hx).2.2, k _ _ (fun z => (hS _ z).2.1 _ h4) h4⟩
theorem GrpAt.ex {H H' : Hp} {g : Addr} {t : Table} (h : GrpAt c H g t) (k : Ex H H') : GrpAt c H' g t := h.stay (S := []) (fun b o _ e => k b o e) (by simp)
def spAllRead (c : Cs) : Sp := fun vs H Q _ => ∃ (ga : Addr) (t : Table) (q : Nat), vs = [.ref ga, .int q] ∧ GrpAt c H ga t ∧ TOk t ∧ ∀ p H', Ex H H' → H p = none → H' p = some (.lst (intVs (arr (fun k => rdq t k q) (gN t)))) → Q (.ref p) H'
theorem szs_get (t : Table) {i : Nat} (h : i < gN t) : (szs t)[i]? = some (sz t i) := by
  unfold szs
  rw [List.getElem?_map, List.getElem?_range h]; rfl
theorem szs_len (t : Table) : (szs t).length = gN t := by unfold szs; rw [List.length_map, List.length_range]
theorem gN_le {t : Table} (h : TOk t) : gN t ≤ 16 := Nat.le_trans (Nat.pow_le_pow_right (by decide) h.c4) (by decide)
theorem allRead_succ (t : Table) (q n : Nat) : arr (fun k => rdq t k q) (n + 1) = arr (fun k => rdq t k q) n ++ if can n q = true then (arr (fun k => rdq t k q) n).map (fun x => if sz t n < x then sz t n else x) else arr (fun k => rdq t k q) n := by
  rw [← allRead_eq, ← allRead_eq]
  unfold allRead
  rw [List.range_succ, List.foldl_append]; rfl
theorem ok_all_read (T : Txt K mg c) : DefOk P w K mg base CX0 2 "all_read" ["groupings", "question"] (spAllRead c) := by
  obtain ⟨f_has_all, fd_has_all, g_has_all, k_has_all, b_has_all, F_has_all⟩ := ok_has_all (P := P) (w := w) (base := base) T
  refine DefOk.make T.d_all_read s_all_read (fun vs H Q E h => ?_) fun f cdv A outer s H vs Q E hr h => ?_
  · obtain ⟨ga, t, q', rfl, hG, hok, q⟩ := h
    rfl
  · obtain ⟨ga, t, q', rfl, hG, hok, q⟩ := h
    refine ⟨_, (pss_cons (ps_set (i := 2) s_all_read.nd rfl (Or.inl rfl) (pe_lst (pa_cons (pe_fld (pv 0) rfl) pa_nil)))
      (pss_cons (ps_for PassesOwn.never rfl (pi_enum rfl T.n_enumerate (pa_cons (pe_fld (pv 0) rfl) pa_nil)) (pg_tup rfl (pgs_cons (pg_name (i := 3) s_all_read.nd rfl (Or.inl rfl)) (pgs_cons (pg_name (i := 4) s_all_read.nd rfl (Or.inr rfl)) pgs_nil)))
      (pss_one (ps_if (pt_val (pe_call F_has_all (hr.mono (by decide)) rfl g_has_all k_has_all b_has_all .nil pass0 (pa_cons (pv 3) (pa_cons (pv 1) pa_nil))))
      (pss_one (ps_set (i := 2) s_all_read.nd rfl (Or.inl rfl) (pe_op op_cat (pv 2) (pe_lc (own := [("lines", 5)]) rfl s_all_read.nd (pi_list (pv 2)) (blkOk_by (own := [("lines", 5)]) (N := N_all_read) (sc := defScope (top 9)) (by decide +kernel)) (fun _ _ _ _ _ => (pg_name (i := 5) s_all_read.nd rfl (Or.inl rfl))) (fun _ _ _ _ _ => pts_nil) (fun _ _ _ _ _ => (pe_ifExp (pt_cmpR op_lt (pv 4) (pv 5) (nomark _)) (pv 4) (pv 5)))))))
      (pss_one (ps_set (i := 2) s_all_read.nd rfl (Or.inl rfl) (pe_op op_cat (pv 2) (pv 2)))))))
      (pss_one (ps_ret (pv 2))))), ?_⟩
    walk_at "rd"
    have hsz : sizeLine = 16777216 := rfl
    obtain ⟨dx, aa, sa, qvs, g1, g2, g3, g4⟩ := id hG
    have h16 := gN_le hok
    refine rd_fldAt g1 T.k_Groupings T.a_Groupings_whole rfl ?_
    walk_at "rd"
    refine ⟨(show 1 ≤ sizeLine by decide), fun p hp => ?_⟩
    walk_at "rd"
    have k0 : Ex H (upd H p (.lst [V.int (t.rows.length : Nat)])) := Ex.new hp
    refine rd_fldAt (k0 _ _ g1) T.k_Groupings T.a_Groupings_sizes rfl ?_
    walk_at "rd"
    refine ⟨sa, _, rfl, SqL.of (k0 _ _ g4), ?_⟩
    refine for_it (walk_enum (xs := intVs (szs t))) (fun i σ H' => ∃ (L : Addr) (x y : Option V), σ = [some (.ref ga), some (.int (q' : Nat)), some (.ref L), x, y, none] ∧ Ex H H' ∧ H L = none ∧ H' L = some (.lst (intVs (arr (fun k => rdq t k q') i)))) ⟨p, none, none, rfl, k0, hp, upd_same⟩ (fun i σ H' hi h => by
      obtain ⟨L, x, y, _, k, _⟩ := h
      exact SqL.of (k _ _ g4)) ?_ ?_
    · rintro i v σ H1 H2 hi ⟨L, x0, y0, rfl, k1, hL0, hL⟩ ⟨tt, x1, y1, rfl, ht, rfl, h1, h2⟩
      injection h1 with h1
      subst h1
      rw [intVs_len, szs_len] at hi
      obtain ⟨s, hsi, rfl⟩ := intVs_get h2
      rw [szs_get t hi] at hsi
      obtain rfl := Option.some.inj hsi
      have k2 : Ex H1 (upd H1 tt (.tup [.int i, .int (sz t i : Nat)])) := Ex.new ht
      have hL2 := k2 _ _ hL
      have kk := k1.trans k2
      have ht2 : upd H1 tt (.tup [.int i, .int (sz t i : Nat)]) tt = some (.tup [.int i, .int (sz t i : Nat)]) := upd_same
      generalize upd H1 tt (.tup [.int i, .int (sz t i : Nat)]) = H2 at hL2 kk ht2 ⊢
      refine rd_tup2 ht2 ?_
      walk_at "rd"
      refine ⟨i, q', rfl, ?_⟩
      walk_at "rd"
      have hll : (arr (fun k => rdq t k q') i).length + (arr (fun k => rdq t k q') i).length ≤ 65536 := by
        rw [arr_len, ← Nat.mul_two, ← Nat.pow_succ]
        exact pow16 (by omega)
      refine rd_iteB (fun hc => ?_) (fun hc => ?_)
      · walk_at "rd"
        refine ⟨L, rfl, ⟨_, SqL.of hL2⟩, fun D hD => ?_⟩
        refine lc_it (walk_list (xs := intVs (arr (fun k => rdq t k q') i))) (LPv H2 D fun j => intVs (((arr (fun k => rdq t k q') i).take j).map fun x => if sz t i < x then sz t i else x)) (LPv.start hD rfl) (fun j H' hj h => SqL.of (h.1 _ _ hL2)) ?_ ?_
        · rintro j v H3 H4 hj hP ⟨rfl, hv⟩
          obtain ⟨n, hn, rfl⟩ := intVs_get hv
          have hlt : (intVs (((arr (fun k => rdq t k q') i).take j).map fun x => if sz t i < x then sz t i else x)).length < sizeLine := by rw [intVs_len, List.length_map, List.length_take]; omega
          have es := intVs_snoc (f := fun x => if sz t i < x then sz t i else x) hn
          walk_at "rd"
          refine ⟨rfl, ?_⟩
          walk_at "rd"
          refine rd_ite (fun hl => ?_) (fun hl => ?_)
          · walk_at "rd"
            refine hP.put (fun _ _ e => e) hD hlt ?_
            rw [es]
            show _ = _ ++ [V.int ((sz t i : Nat) : Int)]
            rw [if_pos (by omega)]
          · walk_at "rd"
            refine hP.put (fun _ _ e => e) hD hlt ?_
            rw [es]
            show _ = _ ++ [V.int ((n : Nat) : Int)]
            rw [if_neg (by omega)]
        · rintro H3 ⟨k3, hD3⟩
          rw [intVs_len] at hD3
          dsimp only at hD3
          rw [List.take_length] at hD3
          walk_at "rd"
          refine ⟨L, D, _, _, rfl, rfl, k3 _ _ hL2, hD3, by rw [intVs_len, intVs_len, List.length_map]; omega, fun p' hp' => ?_⟩
          walk_at "rd"
          have k4 := kk.trans k3
          refine ⟨p', _, _, rfl, k4.trans (Ex.new hp'), Ex.none k4 hp', ?_⟩
          rw [upd_same, allRead_succ, if_pos hc, intVs_app]
      · walk_at "rd"
        refine ⟨L, L, _, _, rfl, rfl, hL2, hL2, by rw [intVs_len]; omega, fun p' hp' => ?_⟩
        walk_at "rd"
        refine ⟨p', _, _, rfl, kk.trans (Ex.new hp'), Ex.none kk hp', ?_⟩
        rw [upd_same, allRead_succ, if_neg (by rw [hc]; decide), intVs_app]
    · rintro σ H1 ⟨L, x0, y0, rfl, k1, hL0, hL⟩
      rw [intVs_len, szs_len] at hL
      walk_at "rd"
      exact q L H1 k1 hL0 hL
def spAllReadings (c : Cs) : Sp := fun vs H Q _ => ∃ (ga : Addr) (t : Table), vs = [.ref ga] ∧ GrpAt c H ga t ∧ TOk t ∧ ∀ p H', Ex H H' → H p = none → H' p = some (.lst (intVs (arr (readK t) (gN t)))) → Q (.ref p) H'
theorem allCosts_succ (t : Table) {i n : Nat} {x : Ask} (h : t.asks[i]? = some x) : allCosts t (t.asks.take (i + 1)) n = ((allCosts t (t.asks.take i) n).zip (arr (fun k => rdq t k x.g) n)).map fun y => y.1 + x.k * y.2 := by
  unfold allCosts
  rw [take_snoc h, List.foldl_append]; rfl
theorem allCosts_len (t : Table) (as : List Ask) (n : Nat) : (allCosts t as n).length = 2 ^ n := by rw [allCosts_eq, arr_len]
theorem ok_all_readings (T : Txt K mg c) : DefOk P w K mg base CX0 3 "all_readings" ["groupings"] (spAllReadings c) := by
  obtain ⟨f_all_read, fd_all_read, g_all_read, k_all_read, b_all_read, F_all_read⟩ := ok_all_read (P := P) (w := w) (base := base) T
  refine DefOk.make T.d_all_readings s_all_readings (fun vs H Q E h => ?_) fun f cdv A outer s H vs Q E hr h => ?_
  · obtain ⟨ga, t, rfl, hG, hok, q⟩ := h
    rfl
  · obtain ⟨ga, t, rfl, hG, hok, q⟩ := h
    refine ⟨_, (pss_cons (ps_set (i := 1) s_all_readings.nd rfl (Or.inl rfl) (pe_op op_rep (pe_lst (pa_cons pe_int pa_nil)) (pe_op op_shl pe_int (pe_callB call_len_seq (by rfl) T.n_len (by decide +kernel) (pa_cons (pe_fld (pv 0) rfl) pa_nil)))))
      (pss_cons (ps_for PassesOwn.never rfl (pi_list (pe_fld (pv 0) rfl)) (pg_tup rfl (pgs_cons (pg_name (i := 2) s_all_readings.nd rfl (Or.inl rfl)) (pgs_cons (pg_name (i := 3) s_all_readings.nd rfl (Or.inr rfl)) pgs_nil)))
      (pss_cons (ps_set (i := 4) s_all_readings.nd rfl (Or.inl rfl) (pe_call F_all_read (hr.mono (by decide)) rfl g_all_read k_all_read b_all_read .nil pass0 (pa_cons (pv 0) (pa_cons (pv 2) pa_nil))))
      (pss_one (ps_setLc (i := 1) (own := [("cost", 5), ("lines", 6)]) rfl s_all_readings.nd rfl rfl (sw_true rfl rfl rfl (by decide +kernel)) (pi_zip rfl T.n_zip (pa_cons (pv 1) (pa_cons (pv 4) pa_nil))) (blkOk_by (own := [("cost", 5), ("lines", 6)]) (N := N_all_readings) (sc := defScope (top 8)) (by decide +kernel)) (fun _ _ _ _ _ => (pg_tupK (K := K) (n := 2) (by rfl) (by rfl) (pgs_cons (pg_name (i := 5) s_all_readings.nd rfl (Or.inl rfl)) (pgs_cons (pg_name (i := 6) s_all_readings.nd rfl (Or.inl rfl)) pgs_nil)))) (fun _ _ _ _ _ => pts_nil) (fun _ _ _ _ _ => (pe_op op_add (pv 5) (pe_op op_mul (pv 3) (pv 6))))))))
      (pss_one (ps_ret (pv 1))))), ?_⟩
    walk_at "rd"
    have hsz : sizeLine = 16777216 := rfl
    obtain ⟨dx, aa, sa, qvs, g1, g2, g3, g4⟩ := id hG
    have h16 := gN_le hok
    have hp16 := pow16 h16
    have hlq : qvs.length = t.asks.length := g3.len
    refine ⟨(show 1 ≤ sizeLine by decide), fun p0 hp0 => ?_⟩
    walk_at "rd"
    have k0 : Ex H (upd H p0 (.lst [V.int 0])) := Ex.new hp0
    refine rd_fldAt (k0 _ _ g1) T.k_Groupings T.a_Groupings_sizes rfl ?_
    walk_at "rd"
    refine ⟨sa, _, rfl, Or.inl (SqL.of (k0 _ _ g4)), ?_⟩
    rw [intVs_len, szs_len]
    refine rd_I ⟨by omega, by omega, by decide⟩ ?_
    have e2 : (1 : Int) * 2 ^ ((gN t : Nat) : Int).toNat = ((2 ^ gN t : Nat) : Int) := by
      rw [Int.toNat_natCast, Int.one_mul]; push_cast; rfl
    refine ⟨p0, ((2 ^ gN t : Nat) : Int), _, rfl, congrArg V.int e2, upd_same, Int.le_trans (by decide) (Int.natCast_nonneg _), by omega, by rw [Int.toNat_natCast]; show 1 * _ ≤ _; omega, fun p hp => ?_⟩
    rw [Int.toNat_natCast]
    have e3 : (List.replicate (2 ^ gN t) [V.int 0]).flatten = intVs (allCosts t (t.asks.take 0) (gN t)) := by
      show _ = intVs (List.replicate (2 ^ gN t) 0)
      unfold intVs
      generalize 2 ^ gN t = m
      induction m with
      | zero => rfl
      | succ m ih => rw [List.replicate_succ, List.flatten_cons, ih, List.replicate_succ, List.map_cons]; rfl
    rw [e3]
    have k1 : Ex H (upd (upd H p0 (.lst [V.int 0])) p (.lst (intVs (allCosts t (t.asks.take 0) (gN t))))) := k0.trans (Ex.new hp)
    have hp1 := Ex.none k0 hp
    have hpp : upd (upd H p0 (.lst [V.int 0])) p (.lst (intVs (allCosts t (t.asks.take 0) (gN t)))) p = some (.lst (intVs (allCosts t (t.asks.take 0) (gN t)))) := upd_same
    generalize upd (upd H p0 (.lst [V.int 0])) p (.lst (intVs (allCosts t (t.asks.take 0) (gN t)))) = H1 at k1 hpp ⊢
    walk_at "rd"
    refine rd_fldAt (k1 _ _ g1) T.k_Groupings T.a_Groupings_asked rfl ?_
    refine ⟨aa, rfl, ⟨_, SqL.of (k1 _ _ g2)⟩, ?_⟩
    refine for_it (walk_list (xs := qvs)) (fun i σ H' => ∃ (L : Addr) (x y z : Option V), σ = [some (.ref ga), some (.ref L), x, y, z, none, none] ∧ Ex H H' ∧ H L = none ∧ H' L = some (.lst (intVs (allCosts t (t.asks.take i) (gN t))))) ⟨p, none, none, none, rfl, k1, hp1, hpp⟩ (fun i σ H' hi h => by
      obtain ⟨L, x, y, z, _, k, _⟩ := h
      exact SqL.of (k _ _ g2)) ?_ ?_
    · rintro i v σ H2 H3 hi ⟨L, x0, y0, z0, rfl, k2, hL0, hL⟩ ⟨rfl, hv⟩
      obtain ⟨x, hx, qa, rfl, hqa⟩ := g3.get hv
      have hok' := hok.ask x (List.mem_of_getElem? hx)
      refine rd_tup2 (k2 _ _ hqa) ?_
      walk_at "rd"
      refine ⟨ga, t, x.g, rfl, hG.ex k2, hok, fun p' H4 k4 hp' hH4 => ?_⟩
      walk_at "rd"
      have hL4 := k4 _ _ hL
      refine ⟨L, p', _, _, rfl, SqL.of hL4, SqL.of hH4, fun D hD => ?_⟩
      have hmin : (intVs (allCosts t (t.asks.take i) (gN t))).length = 2 ^ gN t := by rw [intVs_len, allCosts_len]
      have hmin2 : (intVs (arr (fun k => rdq t k x.g) (gN t))).length = 2 ^ gN t := by rw [intVs_len, arr_len]
      refine lc_it (walk_zip (n := 2 ^ gN t) (xs := intVs (allCosts t (t.asks.take i) (gN t))) (ys := intVs (arr (fun k => rdq t k x.g) (gN t))) (by rw [hmin, hmin2, Nat.min_self]))
        (LPv H4 D fun j => intVs ((((allCosts t (t.asks.take i) (gN t)).zip (arr (fun k => rdq t k x.g) (gN t))).take j).map fun y => y.1 + x.k * y.2)) (LPv.start hD rfl) (fun j H' hj h => ⟨SqL.of (h.1 _ _ hL4), SqL.of (h.1 _ _ hH4)⟩) ?_ ?_
      · rintro j v H5 H6 hj hP ⟨tt, x1, y1, rfl, ht, rfl, h1, h2⟩
        obtain ⟨n1, hn1, rfl⟩ := intVs_get h1
        obtain ⟨n2, hn2, rfl⟩ := intVs_get h2
        have k5 : Ex H5 (upd H5 tt (.tup [.int (n1 : Nat), .int (n2 : Nat)])) := Ex.new ht
        refine rd_tup2 upd_same ⟨rfl, ?_⟩
        walk_at "rd"
        refine rd_I (mulS ⟨by omega, by omega⟩) ?_
        walk_at "rd"
        refine hP.put k5 hD ?_ ?_
        · show (intVs _).length < _
          rw [intVs_len, List.length_map, List.length_take, List.length_zip, allCosts_len, arr_len]; omega
        · show intVs _ = intVs _ ++ [_]
          have hz : ((allCosts t (t.asks.take i) (gN t)).zip (arr (fun k => rdq t k x.g) (gN t)))[j]? = some (n1, n2) := List.getElem?_zip_eq_some.mpr ⟨hn1, hn2⟩
          rw [take_snoc hz, List.map_append, intVs_app]
          have ee : V.int ((n1 : Int) + (x.k : Int) * (n2 : Int)) = V.int ((n1 + x.k * n2 : Nat) : Int) := by rw [Int.natCast_add, Int.natCast_mul]
          rw [ee]; rfl
      · rintro H5 ⟨k5, hD5⟩
        dsimp only at hD5
        have el : ((allCosts t (t.asks.take i) (gN t)).zip (arr (fun k => rdq t k x.g) (gN t))).take (2 ^ gN t) = (allCosts t (t.asks.take i) (gN t)).zip (arr (fun k => rdq t k x.g) (gN t)) := List.take_of_length_le (by rw [List.length_zip, allCosts_len, arr_len, Nat.min_self]; exact Nat.le_refl _)
        rw [el] at hD5
        walk_at "rd"
        have k6 := (k2.trans k4).trans k5
        refine ⟨D, _, _, _, rfl, k6, ?_, ?_⟩
        · exact Ex.none (k2.trans k4) hD
        · rw [hD5, allCosts_succ t hx]
    · rintro σ H2 ⟨L, x0, y0, z0, rfl, k2, hL0, hL⟩
      walk_at "rd"
      rw [hlq, List.take_length, readings_eq] at hL
      exact q L H2 k2 hL0 hL
/-! ### the object of all sets -/
def setsF (ra la ka : Addr) : List (Str × V) := [("readings", .ref ra), ("lines", .ref la), ("kept_counts", .ref ka)]
def SetsAt (c : Cs) (H : Hp) (a : Addr) (t : Table) : Prop := ∃ dx ra la ka : Addr, H a = some (.ins c.cAllSets dx (setsF ra la ka)) ∧ H ra = some (.lst (intVs (arr (readK t) (gN t)))) ∧ H la = some (.lst (intVs (arr (linesK t) (gN t)))) ∧ H ka = some (.lst (intVs (arr List.length (gN t))))
theorem SetsAt.stay {S : List Addr} {H H' : Hp} {a : Addr} {t : Table} (h : SetsAt c H a t) (k : But S H H') (hS : ∀ x ∈ S, (∀ dx ra la ka, H x ≠ some (.ins c.cAllSets dx (setsF ra la ka))) ∧ ∀ xs, H x ≠ some (.lst xs)) : SetsAt c H' a t := by
  obtain ⟨dx, ra, la, ka, h1, h2, h3, h4⟩ := h
  exact ⟨dx, ra, la, ka, k _ _ (fun z => (hS _ z).1 _ _ _ _ h1) h1, k _ _ (fun z => (hS _ z).2 _ h2) h2, k _ _ (fun z => (hS _ z).2 _ h3) h3, k _ _ (fun z => (hS _ z).2 _ h4) h4⟩
theorem SetsAt.ex {H H' : Hp} {a : Addr} {t : Table} (h : SetsAt c H a t) (k : Ex H H') : SetsAt c H' a t := h.stay (S := []) (fun b o _ e => k b o e) (by simp)
def spSetsInit (c : Cs) : Sp := fun vs H Q _ => ∃ (p dx ga : Addr) (t : Table), vs = [.ref p, .ref ga] ∧ H p = some (.ins c.cAllSets dx []) ∧ GrpAt c H ga t ∧ TOk t ∧ ∀ H', But [p] H H' → SetsAt c H' p t → Q .non H'
theorem ok_AllSets_init (T : Txt K mg c) : InitOk P w K mg base CX0 4 c.cAllSets ["self", "groupings"] (spSetsInit c) := by
  obtain ⟨f_all_readings, fd_all_readings, g_all_readings, k_all_readings, b_all_readings, F_all_readings⟩ := ok_all_readings (P := P) (w := w) (base := base) T
  obtain ⟨f_all_lines, fd_all_lines, g_all_lines, k_all_lines, b_all_lines, F_all_lines⟩ := ok_all_lines (P := P) (w := w) (base := base) T
  refine InitOk.make T.i_AllSets s_AllSets_init (fun vs H Q E h => ?_) fun f cdv A outer s H vs Q E hr h => ?_
  · obtain ⟨p, dx, ga, t, rfl, hp, hG, hok, q⟩ := h
    rfl
  · obtain ⟨p, dx, ga, t, rfl, hp, hG, hok, q⟩ := h
    refine ⟨_, (pss_cons (ps_fld (pv 0) (pe_call F_all_readings (hr.mono (by decide)) rfl g_all_readings k_all_readings b_all_readings .nil pass0 (pa_cons (pv 1) pa_nil)) rfl)
      (pss_cons (ps_fld (pv 0) (pe_call F_all_lines (hr.mono (by decide)) rfl g_all_lines k_all_lines b_all_lines .nil pass0 (pa_cons (pe_fld (pv 1) rfl) pa_nil)) rfl)
      (pss_one (ps_fld (pv 0) (pe_call F_all_lines (hr.mono (by decide)) rfl g_all_lines k_all_lines b_all_lines .nil pass0 (pa_cons (pe_op op_rep (pe_lst (pa_cons pe_int pa_nil)) (pe_callB call_len_seq (by rfl) T.n_len (by decide +kernel) (pa_cons (pe_fld (pv 1) rfl) pa_nil))) pa_nil)) rfl)))), ?_⟩
    walk_at "rd"
    have hsz : sizeLine = 16777216 := rfl
    have h16 := gN_le hok
    refine ⟨ga, t, rfl, hG, hok, fun ra H1 k1 hra hra1 => ?_⟩
    walk_at "rd"
    have hp1 := k1 _ _ hp
    refine rd_sfldAt hp1 T.k_AllSets T.a_AllSets_readings (by walk_at "few") ?_
    have b1 : But [p] H (upd H1 p (.ins c.cAllSets dx (putF "readings" (.ref ra) []))) := (fun b o hb e => by rw [upd_ne (by simpa using hb)]; exact k1 _ _ e)
    have hS : ∀ x ∈ [p], (∀ dx n aa sa, H x ≠ some (.ins c.cGroupings dx (grpF n aa sa))) ∧ (∀ xs, H x ≠ some (.lst xs)) ∧ ∀ xs, H x ≠ some (.tup xs) := fun x hx => by
      rw [List.mem_singleton.mp hx, hp]
      refine ⟨fun dx n aa sa z => ?_, (fun xs z => nomatch z), (fun xs z => nomatch z)⟩
      injection z with z
      injection z with z1 z2 z3
      cases z3
    obtain ⟨dg, aa, sa, qvs, g1, g2, g3, g4⟩ := hG.stay b1 hS
    have hrp : ra ≠ p := fun z => by rw [z, hp] at hra; cases hra
    have e1 : upd H1 p (.ins c.cAllSets dx (putF "readings" (.ref ra) [])) p = some (.ins c.cAllSets dx [("readings", .ref ra)]) := upd_same
    have e2 : upd H1 p (.ins c.cAllSets dx (putF "readings" (.ref ra) [])) ra = some (.lst (intVs (arr (readK t) (gN t)))) := by rw [upd_ne hrp]; exact hra1
    generalize upd H1 p (.ins c.cAllSets dx (putF "readings" (.ref ra) [])) = H2 at b1 g1 g2 g3 g4 e1 e2 ⊢
    walk_at "rd"
    refine rd_fldAt g1 T.k_Groupings T.a_Groupings_sizes rfl ?_
    walk_at "rd"
    refine ⟨sa, szs t, rfl, SqL.of g4, by rw [szs_len]; exact h16, fun la H3 k3 hla hla3 => ?_⟩
    rw [show allLines (szs t) = arr (linesK t) (gN t) from allLines_szs t (gN t)] at hla3
    walk_at "rd"
    refine rd_sfldAt (k3 _ _ e1) T.k_AllSets T.a_AllSets_lines (by walk_at "few") ?_
    have hlp : la ≠ p := fun z => by rw [z, e1] at hla; cases hla
    have n1 : ∀ {x : Addr} {o : HO}, H2 x = some o → x ≠ p → upd H3 p (.ins c.cAllSets dx (putF "lines" (.ref la) [("readings", .ref ra)])) x = some o := fun {x o} h1 h2 => by rw [upd_ne h2]; exact k3 _ _ h1
    have e3 : upd H3 p (.ins c.cAllSets dx (putF "lines" (.ref la) [("readings", .ref ra)])) p = some (.ins c.cAllSets dx [("readings", .ref ra), ("lines", .ref la)]) := upd_same
    have e4 := n1 e2 hrp
    have e5 : upd H3 p (.ins c.cAllSets dx (putF "lines" (.ref la) [("readings", .ref ra)])) la = some (.lst (intVs (arr (linesK t) (gN t)))) := by rw [upd_ne hlp]; exact hla3
    have gp : ga ≠ p := fun z => by
      rw [z, e1] at g1
      injection g1 with g1
      injection g1 with _ _ g1
      cases g1
    have sp : sa ≠ p := fun z => by rw [z, e1] at g4; cases g4
    have g1' := n1 g1 gp
    have g4' := n1 g4 sp
    have b2 : But [p] H (upd H3 p (.ins c.cAllSets dx (putF "lines" (.ref la) [("readings", .ref ra)]))) := fun b o hb e => n1 (b1 b o hb e) (by simpa using hb)
    generalize upd H3 p (.ins c.cAllSets dx (putF "lines" (.ref la) [("readings", .ref ra)])) = H4 at b2 e3 e4 e5 g1' g4' ⊢
    walk_at "rd"
    refine ⟨(show 1 ≤ sizeLine by decide), fun p0 hp0 => ?_⟩
    walk_at "rd"
    have k0 : Ex H4 (upd H4 p0 (.lst [V.int 1])) := Ex.new hp0
    refine rd_fldAt (k0 _ _ g1') T.k_Groupings T.a_Groupings_sizes rfl ?_
    walk_at "rd"
    refine ⟨sa, _, rfl, Or.inl (SqL.of (k0 _ _ g4')), ?_⟩
    rw [intVs_len, szs_len]
    refine ⟨p0, ((gN t : Nat) : Int), _, rfl, rfl, upd_same, Int.le_trans (by decide) (Int.natCast_nonneg _), by omega, by rw [Int.toNat_natCast]; show 1 * _ ≤ _; omega, fun p1 hp1 => ?_⟩
    rw [Int.toNat_natCast]
    have e6 : (List.replicate (gN t) [V.int 1]).flatten = intVs (List.replicate (gN t) 1) := by
      unfold intVs
      generalize gN t = m
      induction m with
      | zero => rfl
      | succ m ih => rw [List.replicate_succ, List.flatten_cons, ih, List.replicate_succ, List.map_cons]; rfl
    rw [e6]
    walk_at "rd"
    refine ⟨p1, List.replicate (gN t) 1, rfl, SqL.of upd_same, by rw [List.length_replicate]; exact h16, fun ka H5 k5 hka hka5 => ?_⟩
    rw [allLines_ones] at hka5
    have k6 : Ex H4 H5 := (k0.trans (Ex.new hp1)).trans k5
    walk_at "rd"
    refine rd_sfldAt (k6 _ _ e3) T.k_AllSets T.a_AllSets_kept_counts (by walk_at "few") ?_
    have hkp : ka ≠ p := fun z => by
      have k7 := k0.trans (Ex.new (o := .lst (intVs (List.replicate (gN t) 1))) hp1)
      rw [z, k7 _ _ e3] at hka; cases hka
    refine q _ (fun b o hb e => by rw [upd_ne (by simpa using hb)]; exact k6 _ _ (b2 b o hb e)) ⟨dx, ra, la, ka, upd_same, ?_, ?_, ?_⟩
    · rw [upd_ne hrp]; exact k6 _ _ e4
    · rw [upd_ne hlp]; exact k6 _ _ e5
    · rw [upd_ne hkp]; exact hka5
/-! ### the sizes, as the specification has them -/
theorem keyL_key (t : Table) (g : Nat) {x : Row} (h : x.vs.length = t.cols.length) : keyL x.vs g = Vamvsa.keyOf (Vamvsa.width t) g x.vs := by unfold keyL; rw [h]; rfl
theorem put_keys (x : Vamvsa.Group) : ∀ (l : List Vamvsa.Group) (k : List Nat), k ∈ (Vamvsa.putGroup x l).map (·.key) ↔ k = x.key ∨ k ∈ l.map (·.key)
  | [], k => by simp [Vamvsa.putGroup]
  | y :: r, k => by
    unfold Vamvsa.putGroup
    have ih := put_keys x r k
    split
    · rename_i h
      simp only [List.map_cons, List.mem_cons]
      rw [h]
      constructor
      · rintro (h | h)
        · exact .inl h
        · exact .inr (.inr h)
      · rintro (h | h | h)
        · exact .inl h
        · exact .inl h
        · exact .inr h
    · split
      · simp only [List.map_cons, List.mem_cons]
      · rw [List.map_cons, List.mem_cons, ih, List.map_cons, List.mem_cons]
        constructor
        · rintro (h | h | h)
          · exact .inr (.inl h)
          · exact .inl h
          · exact .inr (.inr h)
        · rintro (h | h | h)
          · exact .inr (.inl h)
          · exact .inl h
          · exact .inr (.inr h)
theorem ll_irrefl : ∀ a : List Nat, Vamvsa.lexLess a a = false
  | [] => rfl
  | x :: r => by
    have ih := ll_irrefl r
    unfold Vamvsa.lexLess
    rw [ih]
    simp
theorem ll_trans : ∀ a b d : List Nat, Vamvsa.lexLess a b = true → Vamvsa.lexLess b d = true → Vamvsa.lexLess a d = true
  | [], _, _, h, _ => by simp [Vamvsa.lexLess] at h
  | _ :: _, [], _, h, _ => by simp [Vamvsa.lexLess] at h
  | _ :: _, _ :: _, [], _, h => by simp [Vamvsa.lexLess] at h
  | x :: a, y :: b, z :: d, h1, h2 => by
    simp only [Vamvsa.lexLess, Bool.or_eq_true, Bool.and_eq_true, decide_eq_true_eq, beq_iff_eq] at h1 h2 ⊢
    rcases h1 with h1 | ⟨h1, h3⟩
    · rcases h2 with h2 | ⟨h2, _⟩
      · exact .inl (Nat.lt_trans h1 h2)
      · exact .inl (h2 ▸ h1)
    · rcases h2 with h2 | ⟨h2, h4⟩
      · exact .inl (h1 ▸ h2)
      · exact .inr ⟨h1.trans h2, ll_trans a b d h3 h4⟩
theorem ll_total : ∀ a b : List Nat, a.length = b.length → a ≠ b → Vamvsa.lexLess a b = false → Vamvsa.lexLess b a = true
  | [], [], _, h, _ => absurd rfl h
  | [], _ :: _, h, _, _ => by simp at h
  | _ :: _, [], h, _, _ => by simp at h
  | x :: a, y :: b, hl, hn, h => by
    simp only [Vamvsa.lexLess, Bool.or_eq_false_iff, Bool.and_eq_false_iff, decide_eq_false_iff_not, beq_eq_false_iff_ne] at h
    simp only [Vamvsa.lexLess, Bool.or_eq_true, Bool.and_eq_true, decide_eq_true_eq, beq_iff_eq]
    obtain ⟨h1, h2⟩ := h
    by_cases e : x = y
    · subst e
      have h2 : Vamvsa.lexLess a b = false := by
        rcases h2 with h2 | h2
        · exact absurd rfl h2
        · exact h2
      exact .inr ⟨rfl, ll_total a b (by simpa using hl) (fun z => hn (by rw [z])) h2⟩
    · exact .inl (by omega)
theorem put_sorted (x : Vamvsa.Group) (d : Nat) (hx : x.key.length = d) : ∀ l : List Vamvsa.Group, (∀ y ∈ l, y.key.length = d) → l.Pairwise (fun a b => Vamvsa.lexLess a.key b.key = true) → (Vamvsa.putGroup x l).Pairwise fun a b => Vamvsa.lexLess a.key b.key = true
  | [], _, _ => List.pairwise_singleton _ _
  | y :: r, hl, hp => by
    obtain ⟨h1, h2⟩ := List.pairwise_cons.mp hp
    unfold Vamvsa.putGroup
    split
    · exact List.pairwise_cons.mpr ⟨h1, h2⟩
    · rename_i hne
      split
      · rename_i hlt
        refine List.pairwise_cons.mpr ⟨fun z hz => ?_, hp⟩
        rcases List.mem_cons.mp hz with e | hz
        · rw [e]; exact hlt
        · exact ll_trans _ _ _ hlt (h1 z hz)
      · rename_i hlt
        refine List.pairwise_cons.mpr ⟨fun z hz => ?_, put_sorted x d hx r (fun y hy => hl y (List.mem_cons_of_mem _ hy)) h2⟩
        have hk := (put_keys x r z.key).mp (List.mem_map.mpr ⟨z, hz, rfl⟩)
        rcases hk with e | e
        · rw [e]
          exact ll_total _ _ (by rw [hx, hl y List.mem_cons_self]) hne (by simpa using hlt)
        · obtain ⟨z', hz', e⟩ := List.mem_map.mp e
          rw [← e]
          exact h1 z' hz'
theorem collect_keys (d : Nat) (l : List Vamvsa.Group) (h : ∀ y ∈ l, y.key.length = d) : ((Vamvsa.collect l).map (·.key)).Nodup ∧ ∀ k, k ∈ (Vamvsa.collect l).map (·.key) ↔ k ∈ l.map (·.key) := by
  have gen : ∀ (l acc : List Vamvsa.Group), (∀ y ∈ l, y.key.length = d) → (∀ y ∈ acc, y.key.length = d) → acc.Pairwise (fun a b => Vamvsa.lexLess a.key b.key = true) →
      (l.foldl (fun r x => Vamvsa.putGroup x r) acc).Pairwise (fun a b => Vamvsa.lexLess a.key b.key = true) ∧ ∀ k, k ∈ (l.foldl (fun r x => Vamvsa.putGroup x r) acc).map (·.key) ↔ k ∈ acc.map (·.key) ∨ k ∈ l.map (·.key) := by
    intro l
    induction l with
    | nil => intro acc _ _ h; exact ⟨h, fun k => by simp⟩
    | cons x r ih =>
      intro acc hl ha hp
      have hx := hl x List.mem_cons_self
      rw [List.foldl_cons]
      obtain ⟨i1, i2⟩ := ih (Vamvsa.putGroup x acc) (fun y hy => hl y (List.mem_cons_of_mem _ hy)) (fun y hy => by
        rcases (put_keys x acc y.key).mp (List.mem_map.mpr ⟨y, hy, rfl⟩) with e | e
        · rw [e]; exact hx
        · obtain ⟨z, hz, e⟩ := List.mem_map.mp e
          rw [← e]; exact ha z hz) (put_sorted x d hx acc ha hp)
      refine ⟨i1, fun k => ?_⟩
      rw [i2, put_keys, List.map_cons, List.mem_cons]
      constructor
      · rintro ((h | h) | h)
        · exact .inr (.inl h)
        · exact .inl h
        · exact .inr (.inr h)
      · rintro (h | h | h)
        · exact .inl (.inr h)
        · exact .inl (.inl h)
        · exact .inr h
  obtain ⟨h1, h2⟩ := gen l [] h (fun y hy => absurd hy List.not_mem_nil) List.Pairwise.nil
  refine ⟨List.pairwise_map.mpr (h1.imp fun {a b} h e => ?_), fun k => ?_⟩
  · rw [e, ll_irrefl] at h; cases h
  · have := h2 k
    rw [List.map_nil] at this
    exact this.trans ⟨fun h => h.resolve_left List.not_mem_nil, .inr⟩
theorem group_keys {t : Table} (hok : TOk t) (g : Nat) : ((Vamvsa.groupsOf t g).map (·.key)).Nodup ∧ ∀ k, k ∈ (Vamvsa.groupsOf t g).map (·.key) ↔ k ∈ keysOf t g := by
  have h := collect_keys (columnsOf (Vamvsa.width t) g).length (t.rows.map fun r => ⟨Vamvsa.keyOf (Vamvsa.width t) g r.vs, r.m, 1⟩) fun y hy => by
    obtain ⟨r, _, rfl⟩ := List.mem_map.mp hy
    show ((columnsOf (Vamvsa.width t) g).map _).length = _
    rw [List.length_map]
  refine ⟨h.1, fun k => (h.2 k).trans ?_⟩
  have e : (t.rows.map fun r => (⟨Vamvsa.keyOf (Vamvsa.width t) g r.vs, r.m, 1⟩ : Vamvsa.Group)).map (·.key) = keysOf t g := by
    unfold keysOf
    rw [List.map_map]
    exact List.map_congr_left fun x hx => (keyL_key t g (hok.row x hx).1).symm
  rw [e]
theorem sz_of {t : Table} (hok : TOk t) {g : Nat} {L : List (List Int)} (nd : L.Nodup) (h : ∀ x, x ∈ L ↔ ∃ y ∈ keysOf t g, x = y.map fun (n : Nat) => (n : Int)) : L.length = sz t g := by
  obtain ⟨h1, h2⟩ := group_keys hok g
  have inj : ∀ a b : List Nat, (a.map fun (n : Nat) => (n : Int)) = (b.map fun (n : Nat) => (n : Int)) → a = b := fun a b e => (List.map_inj_right fun x y z => Int.ofNat.inj z).mp e
  have nd2 : (((Vamvsa.groupsOf t g).map (·.key)).map fun y => y.map fun (n : Nat) => (n : Int)).Nodup := List.pairwise_map.mpr (h1.imp fun {a b} hne e => hne (inj a b e))
  have e : sz t g = (((Vamvsa.groupsOf t g).map (·.key)).map fun y => y.map fun (n : Nat) => (n : Int)).length := by rw [List.length_map, List.length_map]; rfl
  rw [e]
  refine Nat.le_antisymm (nd.length_le_of_subset fun x hx => ?_) (nd2.length_le_of_subset fun x hx => ?_)
  · obtain ⟨y, hy, rfl⟩ := (h x).mp hx
    exact List.mem_map.mpr ⟨y, (h2 y).mpr hy, rfl⟩
  · obtain ⟨y, hy, rfl⟩ := List.mem_map.mp hx
    exact (h _).mpr ⟨y, (h2 y).mp hy, rfl⟩
theorem sz_le {t : Table} (hok : TOk t) (g : Nat) : sz t g ≤ t.rows.length := by
  obtain ⟨h1, h2⟩ := group_keys hok g
  have := h1.length_le_of_subset (l₂ := keysOf t g) fun k hk => (h2 k).mp hk
  rw [List.length_map] at this
  unfold keysOf at this
  rw [List.length_map] at this
  exact this
/-! ### the groupings made -/
def spGrpInit (c : Cs) : Sp := fun vs H Q _ => ∃ (p dx tb ca ra qa : Addr) (t : Table), vs = [.ref p, .ref tb] ∧ H p = some (.ins c.cGroupings dx []) ∧ TabAt c H tb ca ra qa t ∧ TOk t ∧ ∀ H', But [p] H H' → GrpAt c H' p t → Q .non H'
theorem ok_Groupings_init (T : Txt K mg c) : InitOk P w K mg base CX0 3 c.cGroupings ["self", "table"] (spGrpInit c) := by
  obtain ⟨f_size_of, fd_size_of, g_size_of, k_size_of, b_size_of, F_size_of⟩ := ok_size_of (P := P) (w := w) (base := base) T
  refine InitOk.make T.i_Groupings s_Groupings_init (fun vs H Q E h => ?_) fun f cdv A outer s H vs Q E hr h => ?_
  · obtain ⟨p, dx, tb, ca, ra, qa, t, rfl, hp, hT, hok, q⟩ := h
    rfl
  · obtain ⟨p, dx, tb, ca, ra, qa, t, rfl, hp, hT, hok, q⟩ := h
    refine ⟨_, (pss_cons (ps_fld (pv 0) (pe_callB call_len_seq (by rfl) T.n_len (by decide +kernel) (pa_cons (pe_fld (pv 1) rfl) pa_nil)) rfl)
      (pss_cons (ps_fld (pv 0) (pe_callTy call_list_of (by rfl) T.n_list (by decide +kernel) (pa_cons (pe_fld (pv 1) rfl) pa_nil)) rfl)
      (pss_one (ps_fld (pv 0) (pe_lc (own := [("grouping", 2)]) rfl s_Groupings_init.nd (pi_range1 rfl T.n_range (pa_cons (pe_op op_shl pe_int (pe_callB call_len_seq (by rfl) T.n_len (by decide +kernel) (pa_cons (pe_fld (pv 1) rfl) pa_nil))) pa_nil)) (blkOk_by (own := [("grouping", 2)]) (N := N_Groupings_init) (sc := defScope (inClass (top 2) 0)) (by decide +kernel)) (fun _ _ _ _ _ => (pg_name (i := 2) s_Groupings_init.nd rfl (Or.inl rfl))) (fun _ _ _ _ _ => pts_nil) (fun _ _ _ _ _ => (pe_call F_size_of (hr.mono (by decide)) rfl g_size_of k_size_of b_size_of .nil pass0 (pa_cons (pe_fldK (K := K) (by rfl) (pv 1) (by rfl)) (pa_cons (pv 2) pa_nil))))) rfl)))), ?_⟩
    walk_at "rd"
    have hsz : sizeLine = 16777216 := rfl
    have h16 := gN_le hok
    obtain ⟨⟨dt, o⟩, hc, ⟨rvs, hrw, ar⟩, ⟨qvs, hq, aq⟩, _⟩ := id hT
    have tp : tb ≠ p := fun z => by
      rw [z, hp] at o
      injection o with o
      injection o with _ _ o
      cases o
    have lp : ∀ {x : Addr} {xs : List V}, H x = some (.lst xs) → x ≠ p := fun {x xs} h z => by rw [z, hp] at h; cases h
    refine rd_fldAt o T.k_Table T.a_Table_rows rfl ?_
    walk_at "rd"
    refine ⟨ra, _, rfl, Or.inl (SqL.of hrw), ?_⟩
    rw [ar.len]
    walk_at "rd"
    refine rd_sfldAt hp T.k_Groupings T.a_Groupings_whole (by walk_at "few") ?_
    walk_at "rd"
    refine rd_fldAt (by rw [upd_ne tp]; exact o) T.k_Table T.a_Table_questions rfl ?_
    walk_at "rd"
    refine ⟨qa, qvs, rfl, Or.inl (SqL.of (by rw [upd_ne (lp hq)]; exact hq)), fun aa haa => ?_⟩
    have hap : aa ≠ p := fun z => by rw [z, upd_same] at haa; cases haa
    rw [upd_ne hap] at haa
    walk_at "rd"
    refine rd_sfldAt (by rw [upd_ne (Ne.symm hap), upd_same]) T.k_Groupings T.a_Groupings_asked (by walk_at "few") ?_
    have b1 : But [p] H (upd (upd (upd H p (.ins c.cGroupings dx (putF "whole" (.int (t.rows.length : Nat)) []))) aa (.lst qvs)) p (.ins c.cGroupings dx (putF "asked" (.ref aa) (putF "whole" (.int (t.rows.length : Nat)) [])))) := fun b o hb e => by
      have hb := by simpa using hb
      rw [upd_ne hb, upd_ne (ne_of_none e haa), upd_ne hb]; exact e
    have e1 : upd (upd (upd H p (.ins c.cGroupings dx (putF "whole" (.int (t.rows.length : Nat)) []))) aa (.lst qvs)) p (.ins c.cGroupings dx (putF "asked" (.ref aa) (putF "whole" (.int (t.rows.length : Nat)) []))) p = some (.ins c.cGroupings dx [("whole", .int (t.rows.length : Nat)), ("asked", .ref aa)]) := upd_same
    have e2 : upd (upd (upd H p (.ins c.cGroupings dx (putF "whole" (.int (t.rows.length : Nat)) []))) aa (.lst qvs)) p (.ins c.cGroupings dx (putF "asked" (.ref aa) (putF "whole" (.int (t.rows.length : Nat)) []))) aa = some (.lst qvs) := by rw [upd_ne hap, upd_same]
    generalize upd (upd (upd H p (.ins c.cGroupings dx (putF "whole" (.int (t.rows.length : Nat)) []))) aa (.lst qvs)) p (.ins c.cGroupings dx (putF "asked" (.ref aa) (putF "whole" (.int (t.rows.length : Nat)) []))) = H1 at b1 e1 e2 ⊢
    have nl : ∀ {x : Addr} {o : HO}, H x = some o → x ≠ p → H1 x = some o := fun {x o} h hx => b1 _ _ (by simpa using hx) h
    walk_at "rd"
    refine rd_fldAt (nl o tp) T.k_Table T.a_Table_columns rfl ?_
    walk_at "rd"
    refine ⟨ca, _, rfl, Or.inl (SqL.of (nl hc (lp hc))), ?_⟩
    have hcl : (nameVs t.cols).length = t.cols.length := by unfold nameVs; rw [List.length_map]
    have hc4 := hok.c4
    rw [hcl]
    refine rd_I ⟨by omega, by omega, by decide⟩ ?_
    walk_at "rd"
    have en : (1 : Int) * 2 ^ ((t.cols.length : Nat) : Int).toNat = ((gN t : Nat) : Int) := by
      unfold gN
      rw [Int.toNat_natCast, Int.one_mul, Int.natCast_pow]; rfl
    refine ⟨((gN t : Nat) : Int), congrArg (fun z => [V.int z]) en, Int.le_trans (by decide) (Int.natCast_nonneg _), by omega, fun D hD => ?_⟩
    rw [Int.toNat_natCast]
    have hs1 : ∀ x ∈ [p], ∀ xs, H x ≠ some (.tup xs) := fun x hx xs z => by rw [List.mem_singleton.mp hx, hp] at z; cases z
    have ar1 : All2 (RowV H1) rvs t.rows := ar.imp fun _ _ z => z.stay b1 hs1
    have aq1 : All2 (AskV H1) qvs t.asks := aq.imp fun _ _ z => z.stay b1 hs1
    refine lc_it (walk_range (lo := 0) (n := gN t)) (LPv H1 D fun i => intVs ((List.range i).map (sz t))) (LPv.start hD rfl) (fun _ _ _ _ => trivial) ?_ ?_
    · rintro i v H2 H3 hi hP ⟨rfl, hv⟩
      obtain rfl : v = V.int (i : Int) := hv.trans (congrArg V.int (Int.zero_add _))
      walk_at "rd"
      refine ⟨rfl, ?_⟩
      walk_at "rd"
      refine rd_fldAt (hP.1 _ _ (nl o tp)) T.k_Table T.a_Table_rows rfl ?_
      walk_at "rd"
      refine ⟨ra, rvs, t, i, rfl, hP.1 _ _ (nl hrw (lp hrw)), ar1.imp (fun _ _ z => z.stay (S := []) (fun b o _ e => hP.1 b o e) (by simp)), hok, fun H4 L k4 nd hL => ?_⟩
      rw [sz_of hok nd hL]
      refine hP.put k4 hD ?_ ?_
      · show (intVs _).length < _
        rw [intVs_len, List.length_map, List.length_range]; omega
      · show intVs _ = intVs _ ++ [_]
        rw [List.range_succ, List.map_append, intVs_app]; rfl
    · rintro H2 ⟨k2, hD2⟩
      walk_at "rd"
      refine rd_sfldAt (k2 _ _ e1) T.k_Groupings T.a_Groupings_sizes (by walk_at "few") ?_
      have hDp : D ≠ p := fun z => by rw [z, e1] at hD; cases hD
      have b2 : But [p] H1 (upd H2 p (.ins c.cGroupings dx (putF "sizes" (.ref D) [("whole", .int (t.rows.length : Nat)), ("asked", .ref aa)]))) := fun b o hb e => by rw [upd_ne (by simpa using hb)]; exact k2 _ _ e
      have hs2 : ∀ x ∈ [p], ∀ xs, H1 x ≠ some (.tup xs) := fun x hx xs z => by rw [List.mem_singleton.mp hx, e1] at z; cases z
      refine q _ (b1.trans b2) ⟨dx, aa, D, qvs, upd_same, ?_, aq1.imp fun _ _ z => z.stay b2 hs2, ?_⟩
      · rw [upd_ne hap]; exact k2 _ _ e2
      · rw [upd_ne hDp]; exact hD2
/-! ### members of a set -/
theorem bits_more (c : Nat) : ∀ (d n : Nat), c < 2 ^ n → bitsTo c (n + d) = bitsTo c n
  | 0, _, _ => rfl
  | d + 1, n, h => by
    rw [← Nat.add_assoc, bits_low (Nat.lt_of_lt_of_le h (Nat.pow_le_pow_right (by decide) (Nat.le_add_right _ _))), bits_more c d n h]
theorem bits_same {c n m : Nat} (h1 : c < 2 ^ n) (h2 : c < 2 ^ m) : bitsTo c n = bitsTo c m := by
  rcases Nat.le_total n m with h | h
  · obtain ⟨d, rfl⟩ := Nat.exists_eq_add_of_le h
    exact (bits_more c d n h1).symm
  · obtain ⟨d, rfl⟩ := Nat.exists_eq_add_of_le h
    exact bits_more c d m h2
def spMembers : Sp := fun vs H Q _ => ∃ (n m : Nat), vs = [.int n] ∧ n < 2 ^ m ∧ m ≤ 16 ∧ ∀ p H', Ex H H' → H p = none → H' p = some (.lst (intVs (bitsTo n m))) → Q (.ref p) H'
theorem bits_ok {n m : Nat} (h : n < 2 ^ m) : n < 2 ^ Builtin.Int.intBits (n : Int) ∧ Builtin.Int.intBits (n : Int) ≤ m := by
  unfold Builtin.Int.intBits
  by_cases h0 : n = 0
  · subst h0
    exact ⟨by decide, Nat.zero_le _⟩
  · rw [if_neg (by simpa using h0), Int.natAbs_natCast]
    exact ⟨Nat.lt_log2_self, (Nat.log2_lt h0).mpr h⟩
theorem ok_members (T : Txt K mg c) : DefOk P w K mg base CX0 1 "members" ["number"] spMembers := by
  refine DefOk.make T.d_members s_members (fun vs H Q E h => ?_) fun f cdv A outer s H vs Q E hr h => ?_
  · obtain ⟨n, m, rfl, hnm, hm, q⟩ := h
    rfl
  · obtain ⟨n, m, rfl, hnm, hm, q⟩ := h
    refine ⟨_, (pss_one (ps_ret (pe_lc (own := [("grouping", 1)]) rfl s_members.nd (pi_range1 rfl T.n_range (pa_cons (pe_bits (pv 0)) pa_nil)) (blkOk_by (own := [("grouping", 1)]) (N := N_members) (sc := defScope (top 14)) (by decide +kernel)) (fun _ _ _ _ _ => (pg_name (i := 1) s_members.nd rfl (Or.inl rfl))) (fun _ _ _ _ _ => (pts_one (pt_cmpR op_eq (pe_op op_and (pe_op op_shr (pv 0) (pv 1)) pe_int) pe_int (nomark _)))) (fun _ _ _ _ _ => (pv 1))))), ?_⟩
    walk_at "rd"
    have hsz : sizeLine = 16777216 := rfl
    obtain ⟨b1, b2⟩ := bits_ok hnm
    refine ⟨V.int (n : Int), rfl, (n : Int), rfl, ?_⟩
    generalize Builtin.Int.intBits (n : Int) = B at b1 b2 ⊢
    refine ⟨(B : Int), rfl, by omega, by omega, fun D hD => ?_⟩
    rw [Int.toNat_natCast]
    refine lc_it (walk_range (lo := 0) (n := B)) (LPv H D fun i => intVs (bitsTo n i)) (LPv.start hD rfl) (fun _ _ _ _ => trivial) ?_ ?_
    · rintro i v H2 H3 hi hP ⟨rfl, hv⟩
      obtain rfl : v = V.int (i : Int) := hv.trans (congrArg V.int (Int.zero_add _))
      walk_at "rd"
      refine ⟨rfl, ?_⟩
      walk_at "rd"
      rw [shift_bit]
      refine rd_ite (fun hb => ?_) (fun hb => ?_)
      · walk_at "rd"
        refine hP.put (fun _ _ e => e) hD ?_ ?_
        · show (intVs _).length < _
          rw [intVs_len]
          have := bitsTo_len n i
          omega
        · have hb : n / 2 ^ i % 2 = 1 := by injection hb with hb; omega
          show intVs _ = intVs _ ++ [_]
          rw [bitsTo_yes hb, intVs_app]; rfl
      · refine hP.skip (fun _ _ e => e) ?_
        have hb : ¬ n / 2 ^ i % 2 = 1 := fun z => hb (by rw [z]; rfl)
        show intVs _ = intVs _
        rw [bitsTo_no hb]
    · rintro H2 ⟨k2, hD2⟩
      dsimp only at hD2
      rw [bits_same b1 hnm] at hD2
      exact q D H2 k2 hD hD2
/-! ### of a set, by its number -/
theorem arr_get (f : List Nat → Nat) {n c : Nat} (h : c < 2 ^ n) : (arr f n)[c]? = some (f (bitsTo c n)) := by
  unfold arr
  rw [List.getElem?_map, List.getElem?_range h]; rfl
def spCostBy (c : Cs) : Sp := fun vs H Q _ => ∃ (sa : Addr) (t : Table) (n ch : Nat), vs = [.ref sa, .int n, .int ch] ∧ SetsAt c H sa t ∧ TOk t ∧ n < 2 ^ gN t ∧ Q (.int (costK t ch (bitsTo n (gN t)) : Nat)) H
theorem ok_cost_by_number (T : Txt K mg c) : DefOk P w K mg base CX0 2 "cost_by_number" ["sets", "number", "changes"] (spCostBy c) := by
  obtain ⟨f_upkeep, fd_upkeep, g_upkeep, k_upkeep, b_upkeep, F_upkeep⟩ := ok_upkeep (P := P) (w := w) (base := base) T
  refine DefOk.make T.d_cost_by_number s_cost_by_number (fun vs H Q E h => ?_) fun f cdv A outer s H vs Q E hr h => ?_
  · obtain ⟨sa, t, n, ch, rfl, hS, hok, hn, q⟩ := h
    rfl
  · obtain ⟨sa, t, n, ch, rfl, hS, hok, hn, q⟩ := h
    refine ⟨_, (pss_one (ps_ret (pe_op op_add (pe_ix ix_list (pe_fld (pv 0) rfl) (pv 1) (fun _ _ => rfl)) (pe_call F_upkeep (hr.mono (by decide)) rfl g_upkeep k_upkeep b_upkeep .nil pass0 (pa_cons (pe_ix ix_list (pe_fld (pv 0) rfl) (pv 1) (fun _ _ => rfl)) (pa_cons (pv 2) pa_nil)))))), ?_⟩
    walk_at "rd"
    obtain ⟨dx, ra, la, ka, s1, s2, s3, s4⟩ := id hS
    have h16 := gN_le hok
    refine rd_fldAt s1 T.k_AllSets T.a_AllSets_readings rfl ?_
    walk_at "rd"
    refine ⟨ra, _, (n : Int), _, rfl, rfl, SqL.of s2, atI_nat (intVs_at (arr_get _ hn)), ?_⟩
    walk_at "rd"
    refine rd_fldAt s1 T.k_AllSets T.a_AllSets_kept_counts rfl ?_
    walk_at "rd"
    refine ⟨ka, _, (n : Int), _, rfl, rfl, SqL.of s4, atI_nat (intVs_at (arr_get _ hn)), ?_⟩
    walk_at "rd"
    have hl := bitsTo_len n (gN t)
    refine ⟨_, _, rfl, by omega, by omega, ?_⟩
    walk_at "rd"
    have e : V.int (((readK t (bitsTo n (gN t)) : Nat) : Int) + 2 * (((bitsTo n (gN t)).length : Nat) : Int) * (ch : Int)) = V.int ((costK t ch (bitsTo n (gN t)) : Nat) : Int) := by
      unfold costK
      rw [Int.natCast_add, Int.natCast_mul, Int.natCast_mul]; rfl
    rw [e]
    exact q
/-- of the sets with these numbers the best one's number, its cost, its lines -/
def better (t : Table) (ch : Nat) (b : Nat × Nat × Nat) (n : Nat) : Nat × Nat × Nat :=
  if costK t ch (bitsTo n (gN t)) < b.2.1 ∨ (costK t ch (bitsTo n (gN t)) = b.2.1 ∧ linesK t (bitsTo n (gN t)) < b.2.2) then (n, costK t ch (bitsTo n (gN t)), linesK t (bitsTo n (gN t))) else b
def leastF (t : Table) (ch : Nat) (ns : List Nat) : Nat × Nat × Nat := ns.foldl (better t ch) (0, readK t [], 0)
def spLeastOf (K : PySem.W.Frag) (c : Cs) : Sp := fun vs H Q _ => ∃ (sa na : Addr) (t : Table) (ns : List Nat) (ch : Nat), vs = [.ref sa, .ref na, .int ch] ∧ SetsAt c H sa t ∧ TOk t ∧ SqL K H na (intVs ns) ∧ (∀ n ∈ ns, n < 2 ^ gN t) ∧
  ∀ p H', Ex H H' → H p = none → H' p = some (.lst (intVs (bitsTo (leastF t ch ns).1 (gN t)))) → Q (.ref p) H'
theorem two_tup (a b : Int) : [V.int a, V.int b] = [a, b].map V.int := rfl
theorem lex_two (a b d e : Nat) : HT.lexLt [(a : Int), (b : Int)] [(d : Int), (e : Int)] = decide (a < d ∨ (a = d ∧ b < e)) := by
  rw [HT.lexLt_cons, HT.lexLt_cons, HT.lexLt_nil_nil]
  by_cases h : a = d
  · subst h
    rw [if_pos rfl]
    by_cases h2 : b = e
    · subst h2
      rw [if_pos rfl, decide_eq_false]
      omega
    · rw [if_neg (by omega)]
      by_cases h3 : b < e
      · rw [decide_eq_true (by omega), decide_eq_true (by omega)]
      · rw [decide_eq_false (by omega), decide_eq_false (by omega)]
  · rw [if_neg (by omega)]
    by_cases h3 : a < d
    · rw [decide_eq_true (by omega), decide_eq_true (by omega)]
    · rw [decide_eq_false (by omega), decide_eq_false (by omega)]
theorem ok_least_of (T : Txt K mg c) : DefOk P w K mg base CX0 3 "least_of" ["sets", "numbers", "changes"] (spLeastOf K c) := by
  obtain ⟨f_cost_by_number, fd_cost_by_number, g_cost_by_number, k_cost_by_number, b_cost_by_number, F_cost_by_number⟩ := ok_cost_by_number (P := P) (w := w) (base := base) T
  obtain ⟨f_members, fd_members, g_members, k_members, b_members, F_members⟩ := ok_members (P := P) (w := w) (base := base) T
  refine DefOk.make T.d_least_of s_least_of (fun vs H Q E h => ?_) fun f cdv A outer s H vs Q E hr h => ?_
  · obtain ⟨sa, na, t, ns, ch, rfl, hS, hok, hns, hlt, q⟩ := h
    rfl
  · obtain ⟨sa, na, t, ns, ch, rfl, hS, hok, hns, hlt, q⟩ := h
    refine ⟨_, (pss_cons (ps_set (i := 3) s_least_of.nd rfl (Or.inl rfl) pe_int)
      (pss_cons (ps_set (i := 4) s_least_of.nd rfl (Or.inl rfl) (pe_tup (pa_cons (pe_ix ix_list (pe_fld (pv 0) rfl) pe_int (fun _ _ => rfl)) (pa_cons pe_int pa_nil))))
      (pss_cons (ps_for PassesOwn.never rfl (pi_list (pv 1)) (pg_name (i := 5) s_least_of.nd rfl (Or.inl rfl))
      (pss_cons (ps_set (i := 6) s_least_of.nd rfl (Or.inl rfl) (pe_call F_cost_by_number (hr.mono (by decide)) rfl g_cost_by_number k_cost_by_number b_cost_by_number .nil pass0 (pa_cons (pv 0) (pa_cons (pv 5) (pa_cons (pv 2) pa_nil)))))
      (pss_cons (ps_set (i := 7) s_least_of.nd rfl (Or.inl rfl) (pe_ix ix_list (pe_fld (pv 0) rfl) (pv 5) (fun _ _ => rfl)))
      (pss_one (ps_if (pt_cmpR (op_ltT hr.units0) (pe_tup (pa_cons (pv 6) (pa_cons (pv 7) pa_nil))) (pv 4) (nomark _))
      (pss_cons (ps_set (i := 3) s_least_of.nd rfl (Or.inl rfl) (pv 5))
      (pss_one (ps_set (i := 4) s_least_of.nd rfl (Or.inl rfl) (pe_tup (pa_cons (pv 6) (pa_cons (pv 7) pa_nil))))))
      pss_nil)))))
      (pss_one (ps_ret (pe_call F_members (hr.mono (by decide)) rfl g_members k_members b_members .nil pass0 (pa_cons (pv 3) pa_nil))))))), ?_⟩
    walk_at "rd"
    obtain ⟨dx, ra, la, ka, s1, s2, s3, s4⟩ := id hS
    have h16 := gN_le hok
    have h0 : 0 < 2 ^ gN t := Nat.two_pow_pos _
    have eb : bitsTo 0 (gN t) = [] := by
      unfold bitsTo
      exact List.filter_eq_nil_iff.mpr fun i _ => by simp
    refine rd_fldAt s1 T.k_AllSets T.a_AllSets_readings rfl ?_
    walk_at "rd"
    refine ⟨ra, _, 0, _, rfl, rfl, SqL.of s2, atI_nat (j := 0) (intVs_at (arr_get _ h0)), ?_⟩
    walk_at "rd"
    refine ⟨(show 2 ≤ sizeLine by decide), fun p hp => ?_⟩
    walk_at "rd"
    refine ⟨na, rfl, ⟨_, seq_ex (Ex.new hp) hns⟩, ?_⟩
    refine for_it (walk_list (xs := intVs ns)) (fun i σ H' => ∃ (l : Addr) (x y z : Option V), σ = [some (.ref sa), some (.ref na), some (.int (ch : Nat)), some (.int ((leastF t ch (ns.take i)).1 : Nat)), some (.ref l), x, y, z] ∧ Ex H H' ∧ H' l = some (.tup [.int ((leastF t ch (ns.take i)).2.1 : Nat), .int ((leastF t ch (ns.take i)).2.2 : Nat)]) ∧ (leastF t ch (ns.take i)).1 < 2 ^ gN t)
      ⟨p, none, none, none, rfl, Ex.new hp, by rw [upd_same, eb]; rfl, h0⟩ (fun i σ H' hi h => by
      obtain ⟨L, x, y, z, _, k, _⟩ := h
      exact seq_ex k hns) ?_ ?_
    · rintro i v σ H1 H2 hi ⟨l, x0, y0, z0, rfl, k1, hl, hlb⟩ ⟨rfl, hv⟩
      obtain ⟨n, hn, rfl⟩ := intVs_get hv
      have hn2 := hlt n (List.mem_of_getElem? hn)
      walk_at "rd"
      refine ⟨sa, t, n, ch, rfl, hS.ex k1, hok, hn2, ?_⟩
      walk_at "rd"
      refine rd_fldAt (k1 _ _ s1) T.k_AllSets T.a_AllSets_lines rfl ?_
      walk_at "rd"
      refine ⟨la, _, (n : Int), _, rfl, rfl, SqL.of (k1 _ _ s3), atI_nat (intVs_at (arr_get _ hn2)), ?_⟩
      walk_at "rd"
      refine ⟨(show 2 ≤ sizeLine by decide), fun p1 hp1 => ?_⟩
      walk_at "rd"
      have k2 : Ex H2 (upd H2 p1 (.tup [.int (costK t ch (bitsTo n (gN t)) : Nat), .int (linesK t (bitsTo n (gN t)) : Nat)])) := Ex.new hp1
      refine ⟨p1, l, _, _, rfl, rfl, SqT.mk (by rw [upd_same, two_tup]), SqT.mk (by rw [k2 _ _ hl, two_tup]), ?_⟩
      rw [lex_two]
      have ebt : leastF t ch (ns.take (i + 1)) = better t ch (leastF t ch (ns.take i)) n := by
        unfold leastF
        rw [take_snoc hn, List.foldl_append]; rfl
      walk_at "rd"
      refine rd_ite (fun hc => ?_) (fun hc => ?_)
      · have e1 : leastF t ch (ns.take (i + 1)) = (n, costK t ch (bitsTo n (gN t)), linesK t (bitsTo n (gN t))) := by rw [ebt]; exact if_pos hc
        walk_at "rd"
        refine ⟨(show 2 ≤ sizeLine by decide), fun p2 hp2 => ?_⟩
        walk_at "rd"
        refine ⟨p2, _, _, _, by rw [e1]; rfl, (k1.trans k2).trans (Ex.new hp2), by rw [upd_same, e1], by rw [e1]; exact hn2⟩
      · have e1 : leastF t ch (ns.take (i + 1)) = leastF t ch (ns.take i) := by rw [ebt]; exact if_neg hc
        walk_at "rd"
        exact ⟨l, _, _, _, by rw [e1]; rfl, k1.trans k2, by rw [e1]; exact k2 _ _ hl, by rw [e1]; exact hlb⟩
    · rintro σ H1 ⟨l, x0, y0, z0, rfl, k1, hl, hlb⟩
      rw [intVs_len, List.take_length] at hl hlb ⊢
      walk_at "rd"
      exact ⟨_, gN t, rfl, hlb, h16, fun p H2 k2 hp h2 => q p H2 (k1.trans k2) (Ex.none k1 hp) h2⟩
/-! ### the best set -/
def roomFor (t : Table) (room : Nat) : List Nat := (List.range (2 ^ gN t)).filter fun n => decide (linesK t (bitsTo n (gN t)) ≤ room)
def fewOf (t : Table) (m : Nat) : List Nat := (List.range (2 ^ gN t)).filter fun n => decide ((bitsTo n (gN t)).length ≤ m)
def spBestSet (c : Cs) : Sp := fun vs H Q _ => ∃ (sa : Addr) (t : Table) (room ch : Nat), vs = [.ref sa, .int room, .int ch] ∧ SetsAt c H sa t ∧ TOk t ∧
  ∀ p H', Ex H H' → H p = none → H' p = some (.lst (intVs (bitsTo (leastF t ch (roomFor t room)).1 (gN t)))) → Q (.ref p) H'
theorem filt_yes {p : Nat → Bool} {n : Nat} (h : p n = true) : intVs ((List.range (n + 1)).filter p) = intVs ((List.range n).filter p) ++ [V.int (n : Nat)] := by
  rw [List.range_succ, List.filter_append, intVs_app, List.filter_cons, h]; rfl
theorem filt_no {p : Nat → Bool} {n : Nat} (h : p n = false) : intVs ((List.range (n + 1)).filter p) = intVs ((List.range n).filter p) := by
  rw [List.range_succ, List.filter_append, intVs_app, List.filter_cons, h]
  exact List.append_nil _
theorem filt_len {p : Nat → Bool} {n : Nat} : (intVs ((List.range n).filter p)).length ≤ n := by
  rw [intVs_len]
  have := List.length_filter_le p (List.range n)
  rwa [List.length_range] at this
theorem ok_best_set (T : Txt K mg c) : DefOk P w K mg base CX0 4 "best_set" ["sets", "room", "changes"] (spBestSet c) := by
  obtain ⟨f_least_of, fd_least_of, g_least_of, k_least_of, b_least_of, F_least_of⟩ := ok_least_of (P := P) (w := w) (base := base) T
  refine DefOk.make T.d_best_set s_best_set (fun vs H Q E h => ?_) fun f cdv A outer s H vs Q E hr h => ?_
  · obtain ⟨sa, t, room, ch, rfl, hS, hok, q⟩ := h
    rfl
  · obtain ⟨sa, t, room, ch, rfl, hS, hok, q⟩ := h
    refine ⟨_, (pss_one (ps_ret (pe_call F_least_of (hr.mono (by decide)) rfl g_least_of k_least_of b_least_of .nil pass0 (pa_cons (pv 0) (pa_cons (pe_lc (own := [("number", 3), ("lines", 4)]) rfl s_best_set.nd (pi_enum rfl T.n_enumerate (pa_cons (pe_fld (pv 0) rfl) pa_nil)) (blkOk_by (own := [("number", 3), ("lines", 4)]) (N := N_best_set) (sc := defScope (top 10)) (by decide +kernel)) (fun _ _ _ _ _ => (pg_tupK (K := K) (n := 2) (by rfl) (by rfl) (pgs_cons (pg_name (i := 3) s_best_set.nd rfl (Or.inl rfl)) (pgs_cons (pg_name (i := 4) s_best_set.nd rfl (Or.inl rfl)) pgs_nil)))) (fun _ _ _ _ _ => (pts_one (pt_cmpR op_le (pv 4) (pv 1) (nomark _)))) (fun _ _ _ _ _ => (pv 3))) (pa_cons (pv 2) pa_nil)))))), ?_⟩
    walk_at "rd"
    have hsz : sizeLine = 16777216 := rfl
    obtain ⟨dx, ra, la, ka, s1, s2, s3, s4⟩ := id hS
    have h16 := gN_le hok
    have hp16 := pow16 h16
    refine rd_fldAt s1 T.k_AllSets T.a_AllSets_lines rfl ?_
    walk_at "rd"
    refine ⟨la, _, rfl, SqL.of s3, fun D hD => ?_⟩
    refine lc_it walk_enum (LPv H D fun i => intVs ((List.range i).filter fun n => decide (linesK t (bitsTo n (gN t)) ≤ room))) (LPv.start hD rfl) (fun i H' hi h => SqL.of (h.1 _ _ s3)) ?_ ?_
    · rintro i x H1 H2 hi hP ⟨tt, x1, y1, rfl, ht, rfl, h1, h2⟩
      injection h1 with h1
      subst h1
      rw [intVs_len, arr_len] at hi
      obtain ⟨n, hn, rfl⟩ := intVs_get h2
      rw [arr_get _ hi] at hn
      obtain rfl := Option.some.inj hn
      have k1 := Ex.new (o := .tup [.int i, .int (linesK t (bitsTo i (gN t)) : Nat)]) ht
      refine rd_tup2 upd_same ⟨rfl, ?_⟩
      walk_at "rd"
      refine rd_ite (fun hb => ?_) (fun hb => ?_)
      · walk_at "rd"
        exact hP.put k1 hD (Nat.lt_of_le_of_lt filt_len (by omega)) (filt_yes (decide_eq_true (by omega)))
      · exact hP.skip k1 (filt_no (decide_eq_false (by omega)))
    · rintro H1 ⟨k1, h1⟩
      rw [intVs_len, arr_len] at h1
      walk_at "rd"
      exact ⟨sa, D, t, roomFor t room, ch, rfl, hS.ex k1, hok, SqL.of h1, fun n hn => List.mem_range.mp (List.mem_filter.mp hn).1, fun p H2 k2 hp h2 => q p H2 (k1.trans k2) (Ex.none k1 hp) h2⟩
def spBestFew (c : Cs) : Sp := fun vs H Q _ => ∃ (sa : Addr) (t : Table) (m : Nat), vs = [.ref sa, .int m] ∧ SetsAt c H sa t ∧ TOk t ∧
  ∀ p H', Ex H H' → H p = none → H' p = some (.lst (intVs (bitsTo (leastF t 0 (fewOf t m)).1 (gN t)))) → Q (.ref p) H'
theorem ok_best_few (T : Txt K mg c) : DefOk P w K mg base CX0 4 "best_few" ["sets", "most"] (spBestFew c) := by
  obtain ⟨f_least_of, fd_least_of, g_least_of, k_least_of, b_least_of, F_least_of⟩ := ok_least_of (P := P) (w := w) (base := base) T
  refine DefOk.make T.d_best_few s_best_few (fun vs H Q E h => ?_) fun f cdv A outer s H vs Q E hr h => ?_
  · obtain ⟨sa, t, m, rfl, hS, hok, q⟩ := h
    rfl
  · obtain ⟨sa, t, m, rfl, hS, hok, q⟩ := h
    refine ⟨_, (pss_one (ps_ret (pe_call F_least_of (hr.mono (by decide)) rfl g_least_of k_least_of b_least_of .nil pass0 (pa_cons (pv 0) (pa_cons (pe_lc (own := [("number", 2), ("count", 3)]) rfl s_best_few.nd (pi_enum rfl T.n_enumerate (pa_cons (pe_fld (pv 0) rfl) pa_nil)) (blkOk_by (own := [("number", 2), ("count", 3)]) (N := N_best_few) (sc := defScope (top 11)) (by decide +kernel)) (fun _ _ _ _ _ => (pg_tupK (K := K) (n := 2) (by rfl) (by rfl) (pgs_cons (pg_name (i := 2) s_best_few.nd rfl (Or.inl rfl)) (pgs_cons (pg_name (i := 3) s_best_few.nd rfl (Or.inl rfl)) pgs_nil)))) (fun _ _ _ _ _ => (pts_one (pt_cmpR op_le (pv 3) (pv 1) (nomark _)))) (fun _ _ _ _ _ => (pv 2))) (pa_cons pe_int pa_nil)))))), ?_⟩
    walk_at "rd"
    have hsz : sizeLine = 16777216 := rfl
    obtain ⟨dx, ra, la, ka, s1, s2, s3, s4⟩ := id hS
    have h16 := gN_le hok
    have hp16 := pow16 h16
    refine rd_fldAt s1 T.k_AllSets T.a_AllSets_kept_counts rfl ?_
    walk_at "rd"
    refine ⟨ka, _, rfl, SqL.of s4, fun D hD => ?_⟩
    refine lc_it walk_enum (LPv H D fun i => intVs ((List.range i).filter fun n => decide ((bitsTo n (gN t)).length ≤ m))) (LPv.start hD rfl) (fun i H' hi h => SqL.of (h.1 _ _ s4)) ?_ ?_
    · rintro i x H1 H2 hi hP ⟨tt, x1, y1, rfl, ht, rfl, h1, h2⟩
      injection h1 with h1
      subst h1
      rw [intVs_len, arr_len] at hi
      obtain ⟨n, hn, rfl⟩ := intVs_get h2
      rw [arr_get _ hi] at hn
      obtain rfl := Option.some.inj hn
      have k1 := Ex.new (o := .tup [.int i, .int ((bitsTo i (gN t)).length : Nat)]) ht
      refine rd_tup2 upd_same ⟨rfl, ?_⟩
      walk_at "rd"
      refine rd_ite (fun hb => ?_) (fun hb => ?_)
      · walk_at "rd"
        exact hP.put k1 hD (Nat.lt_of_le_of_lt filt_len (by omega)) (filt_yes (decide_eq_true (by omega)))
      · exact hP.skip k1 (filt_no (decide_eq_false (by omega)))
    · rintro H1 ⟨k1, h1⟩
      rw [intVs_len, arr_len] at h1
      walk_at "rd"
      exact ⟨sa, D, t, fewOf t m, 0, rfl, hS.ex k1, hok, SqL.of h1, fun n hn => List.mem_range.mp (List.mem_filter.mp hn).1, fun p H2 k2 hp h2 => q p H2 (k1.trans k2) (Ex.none k1 hp) h2⟩
end
end Bk
end
section
local macro_rules | `(tactic| walk_at "rd1") => `(tactic| first
  | with_reducible refine Bk.rd_seq ?_
  | ((with_reducible refine' Bk.rd_var ?k1 ?_); (case k1 => exact rfl))
  | with_reducible refine Bk.rd_c ?_
  | with_reducible refine Bk.rd_op ?_
  | with_reducible refine Bk.rd_I0 ?_
  | ((with_reducible refine' Bk.rd_I ?k1 ?_); (case k1 => first | assumption | omega))
  | with_reducible refine Bk.rd_test ?_
  | with_reducible refine Bk.rd_tB ?_
  | with_reducible refine Bk.rd_bl ?_
  | ((with_reducible refine' Bk.rd_eq ?k1 ?_); (case k1 => exact rfl))
  | ((with_reducible refine' Bk.rd_ne ?k1 ?_); (case k1 => exact rfl))
  | with_reducible refine Bk.rd_and ?_
  | with_reducible refine Bk.rd_or ?_
  | with_reducible refine Bk.rd_not ?_
  | with_reducible refine Bk.rd_andV ?_
  | with_reducible refine Bk.rd_isN ?_
  | with_reducible refine Bk.rd_notN ?_
  | with_reducible refine Bk.rd_asg ?_
  | with_reducible refine Bk.rd_nm ?_
  | with_reducible refine Bk.rd_ret ?_
  | with_reducible refine Bk.rd_drop ?_
  | with_reducible refine Bk.rd_if ?_
  | with_reducible refine Bk.rd_ifE ?_
  | ((with_reducible refine' Bk.rd_aug ?k1 ?_); (case k1 => exact rfl))
  | with_reducible refine Bk.rd_ipI ?_
  | with_reducible refine Bk.rd_nil ?_
  | with_reducible refine Bk.rd_cons ?_
  | with_reducible refine Bk.rd_CB ?_
  | with_reducible refine Bk.rd_call ?_
  | with_reducible refine Bk.rd_callS ?_
  | with_reducible refine Bk.rd_un ?_
  | with_reducible refine Bk.rd_U ?_
  | with_reducible refine Bk.rd_fld ?_
  | with_reducible refine Bk.rd_sfld ?_
  | with_reducible refine Bk.rd_tup ?_
  | with_reducible refine Bk.rd_lst ?_
  | with_reducible refine Bk.rd_next ?_
  | with_reducible refine Bk.rd_brk ?_
  | with_reducible refine Bk.rd_BM ?_
  | with_reducible refine Bk.rd_BM0 ?_
  | with_reducible refine Bk.rd_for ?_
  | with_reducible refine Bk.rd_iStr ?_
  | with_reducible refine Bk.rd_fldaug ?_
  | with_reducible refine Bk.rd_mkO ?_
  | with_reducible refine Bk.rd_js ?_
  | with_reducible refine Bk.rd_js0 ?_
  | with_reducible refine Bk.rd_fmt ?_
  | with_reducible refine Bk.rd_erI ?_
  | with_reducible refine Bk.rd_erSet ?_
  | with_reducible refine Bk.rd_lc ?_
  | with_reducible refine Bk.rd_yes' ?_
  | with_reducible refine Bk.rd_iList ?_
  | with_reducible refine Bk.rd_iTup ?_
  | with_reducible refine Bk.rd_iRng1 ?_
  | with_reducible refine Bk.rd_iEnum ?_
  | with_reducible refine Bk.rd_iZip ?_
  | with_reducible refine Bk.rd_iEnumT ?_
  | with_reducible refine Bk.rd_M1 ?_
  | with_reducible refine Bk.rd_dget2 ?_
  | with_reducible refine Bk.rd_dput ?_
  | with_reducible refine Bk.rd_dnotin ?_
  | with_reducible refine Bk.rd_dget ?_
  | with_reducible refine Bk.rd_sl ?_
  | with_reducible refine Bk.rd_noPart ?_
  | with_reducible refine Bk.rd_part ?_
  | with_reducible refine Bk.rd_int ?_
  | with_reducible refine Bk.rd_str ?_
  | with_reducible refine Bk.rd_isstr ?_
  | with_reducible refine Bk.rd_make ?_
  | with_reducible refine Bk.rd_meth ?_
  | with_reducible refine L2.iteT ?_
  | with_reducible refine L2.iteF ?_)
local macro_rules | `(tactic| walk_at "rd") => `(tactic| repeat (walk_at "rd1"))
local macro_rules | `(tactic| walk_at "few") => `(tactic| first | exact (show (0 : Nat) < 1000 by decide) | exact (show (1 : Nat) < 1000 by decide) | exact (show (2 : Nat) < 1000 by decide) | exact (show (3 : Nat) < 1000 by decide) | exact (show (4 : Nat) < 1000 by decide) | exact (show (5 : Nat) < 1000 by decide) | exact (show (6 : Nat) < 1000 by decide) | exact (show (7 : Nat) < 1000 by decide))

/-! sets of groupings: the curve, step by step -/
namespace Bk
open PySem hiding Tok
open PySem.Spec hiding Row
open PyProof.Rows L2 L2.DX
open Vamvsa (Table Row Ask columnsOf)
section
variable {P : Program} {w : World} {K : PySem.W.Frag} {mg : Str → Option Value} {base : Heap} {c : Cs}
def ipair (x : Nat × Nat) : Int × Int := ((x.1 : Int), (x.2 : Int))
def PairV (H : Hp) (v : V) (x : Nat × Nat) : Prop := ∃ a, v = .ref a ∧ H a = some (.tup [.int (x.1 : Nat), .int (x.2 : Nat)])
/-- the least cost of the sets with so many lines, among the first n -/
def MinAt (t : Table) (ch n : Nat) (x : Nat × Nat) : Prop := (∃ k, k < n ∧ linesK t (bitsTo k (gN t)) = x.1 ∧ costK t ch (bitsTo k (gN t)) = x.2) ∧ ∀ k, k < n → linesK t (bitsTo k (gN t)) = x.1 → x.2 ≤ costK t ch (bitsTo k (gN t))
def spRooms (c : Cs) : Sp := fun vs H Q _ => ∃ (sa : Addr) (t : Table) (ch : Nat), vs = [.ref sa, .int ch] ∧ SetsAt c H sa t ∧ TOk t ∧
  ∀ p H' us ss, Ex H H' → H p = none → H' p = some (.lst us) → us.length ≤ 65536 → ss.Pairwise (fun x y => x.1 < y.1) → (∀ x, x ∈ ss ↔ MinAt t ch (2 ^ gN t) x) → All2 (PairV H') us (Vamvsb.fall none ss) → Q (.ref p) H'
/-! the dict of the least costs -/
abbrev entN (x : Nat × Nat) : Key × V := entI (ipair x)
def lookN (qs : List (Nat × Nat)) (r : Nat) : Option Nat := (qs.find? fun x => decide (x.1 = r)).map (·.2)
def putN (qs : List (Nat × Nat)) (r m : Nat) : List (Nat × Nat) := if (qs.any fun x => decide (x.1 = r)) = true then qs.map (fun x => if x.1 = r then (x.1, m) else x) else qs ++ [(r, m)]
theorem key_dec (x : Nat × Nat) (r : Nat) : decide ((entN x).1 = (Sum.inl (r : Int) : Key)) = decide (x.1 = r) := by
  by_cases h : x.1 = r
  · rw [decide_eq_true h, decide_eq_true (by show (Sum.inl (x.1 : Int) : Key) = _; rw [h])]
  · rw [decide_eq_false h, decide_eq_false (fun z => h (by injection z with z; exact Int.ofNat.inj z))]
theorem valV_ent (r : Nat) : ∀ qs : List (Nat × Nat), valV (qs.map entN) (Sum.inl (r : Int) : Key) = (lookN qs r).map fun (m : Nat) => V.int (m : Int)
  | [] => rfl
  | x :: qs => by
    have ih := valV_ent r qs
    unfold valV lookN at ih ⊢
    rw [List.map_cons, List.find?_cons, List.find?_cons, key_dec]
    cases decide (x.1 = r) with
    | true => rfl
    | false => exact ih
theorem putK_ent (qs : List (Nat × Nat)) (r m : Nat) : putK (qs.map entN) (Sum.inl (r : Int) : Key) (V.int (m : Int)) = (putN qs r m).map entN := by
  have e1 : ((qs.map entN).any fun kv => decide (kv.1 = (Sum.inl (r : Int) : Key))) = qs.any fun x => decide (x.1 = r) := by
    rw [List.any_map]
    congr 1
    exact funext fun x => key_dec x r
  unfold putK putN
  rw [e1]
  split
  · rw [List.map_map, List.map_map]
    refine List.map_congr_left fun x _ => ?_
    show (if (entN x).1 = (Sum.inl (r : Int) : Key) then ((entN x).1, V.int (m : Int)) else entN x) = entN (if x.1 = r then (x.1, m) else x)
    have := key_dec x r
    by_cases h : x.1 = r
    · rw [decide_eq_true h] at this
      rw [if_pos h, if_pos (of_decide_eq_true this)]; rfl
    · rw [decide_eq_false h] at this
      rw [if_neg h, if_neg (of_decide_eq_false this)]
  · rw [List.map_append]; rfl
theorem lookN_some {qs : List (Nat × Nat)} {r m : Nat} (h : lookN qs r = some m) : (r, m) ∈ qs := by
  unfold lookN at h
  obtain ⟨x, hx, e⟩ := Option.map_eq_some_iff.mp h
  have h1 := List.mem_of_find?_eq_some hx
  have h2 := List.find?_some hx
  simp only [decide_eq_true_eq] at h2
  rw [← e, ← h2]
  exact h1
theorem lookN_none {qs : List (Nat × Nat)} {r : Nat} (h : lookN qs r = none) : ∀ x ∈ qs, x.1 ≠ r := by
  unfold lookN at h
  rw [Option.map_eq_none_iff, List.find?_eq_none] at h
  intro x hx
  simpa using h x hx
/-- what the dict holds behind n sets -/
structure Least (t : Table) (ch n : Nat) (qs : List (Nat × Nat)) : Prop where
  a : ∀ x ∈ qs, ∃ k, k < n ∧ linesK t (bitsTo k (gN t)) = x.1 ∧ costK t ch (bitsTo k (gN t)) = x.2
  b : ∀ k, k < n → ∃ m, (linesK t (bitsTo k (gN t)), m) ∈ qs ∧ m ≤ costK t ch (bitsTo k (gN t))
  c : (qs.map (·.1)).Nodup
  l : qs.length ≤ n
theorem key_one : ∀ {qs : List (Nat × Nat)}, (qs.map (·.1)).Nodup → ∀ {r m m' : Nat}, (r, m) ∈ qs → (r, m') ∈ qs → m = m'
  | [], _, _, _, _, h, _ => absurd h List.not_mem_nil
  | x :: qs, nd, r, m, m', h1, h2 => by
    rw [List.map_cons] at nd
    have nd' := List.nodup_cons.mp nd
    rcases List.mem_cons.mp h1 with e1 | h1
    · rcases List.mem_cons.mp h2 with e2 | h2
      · exact (Prod.mk.inj (e1.trans e2.symm)).2
      · exact absurd (List.mem_map.mpr ⟨_, h2, by rw [← e1]⟩) nd'.1
    · rcases List.mem_cons.mp h2 with e2 | h2
      · exact absurd (List.mem_map.mpr ⟨_, h1, by rw [← e2]⟩) nd'.1
      · exact key_one nd'.2 h1 h2
theorem Least.start (t : Table) (ch : Nat) : Least t ch 0 [] := ⟨fun x h => absurd h List.not_mem_nil, fun k h => absurd h (Nat.not_lt_zero _), List.Pairwise.nil, Nat.le_refl _⟩
theorem Least.keep {t : Table} {ch n : Nat} {qs : List (Nat × Nat)} (h : Least t ch n qs) {m : Nat} (hm : (linesK t (bitsTo n (gN t)), m) ∈ qs) (hc : m ≤ costK t ch (bitsTo n (gN t))) : Least t ch (n + 1) qs := by
  refine ⟨fun x hx => ?_, fun k hk => ?_, h.c, Nat.le_succ_of_le h.l⟩
  · obtain ⟨k, h1, h2⟩ := h.a x hx
    exact ⟨k, Nat.lt_succ_of_lt h1, h2⟩
  · rcases Nat.lt_succ_iff_lt_or_eq.mp hk with h1 | h1
    · exact h.b k h1
    · rw [h1]; exact ⟨m, hm, hc⟩
theorem Least.put {t : Table} {ch n : Nat} {qs : List (Nat × Nat)} (h : Least t ch n qs) (hc : ∀ m, lookN qs (linesK t (bitsTo n (gN t))) = some m → costK t ch (bitsTo n (gN t)) < m) :
    Least t ch (n + 1) (putN qs (linesK t (bitsTo n (gN t))) (costK t ch (bitsTo n (gN t)))) := by
  generalize hr : linesK t (bitsTo n (gN t)) = r at hc ⊢
  generalize hm : costK t ch (bitsTo n (gN t)) = m at hc ⊢
  unfold putN
  split
  · rename_i ha
    obtain ⟨y, hy, ey⟩ := List.any_eq_true.mp ha
    have ey := of_decide_eq_true ey
    have hl : ∃ m0, lookN qs r = some m0 := by
      cases e : lookN qs r with
      | none => exact absurd ey (lookN_none e y hy)
      | some m0 => exact ⟨m0, rfl⟩
    obtain ⟨m0, hl⟩ := hl
    have hin := lookN_some hl
    have hlt := hc m0 hl
    refine ⟨fun x hx => ?_, fun k hk => ?_, ?_, by rw [List.length_map]; exact Nat.le_succ_of_le h.l⟩
    · obtain ⟨z, hz, rfl⟩ := List.mem_map.mp hx
      by_cases e : z.1 = r
      · rw [if_pos e]
        exact ⟨n, Nat.lt_succ_self _, by rw [hr]; exact e.symm, hm⟩
      · rw [if_neg e]
        obtain ⟨k, h1, h2⟩ := h.a z hz
        exact ⟨k, Nat.lt_succ_of_lt h1, h2⟩
    · have top : (r, m) ∈ qs.map fun x => if x.1 = r then (x.1, m) else x := List.mem_map.mpr ⟨(r, m0), hin, by rw [if_pos rfl]⟩
      rcases Nat.lt_succ_iff_lt_or_eq.mp hk with h1 | h1
      · obtain ⟨m1, h2, h3⟩ := h.b k h1
        by_cases e : linesK t (bitsTo k (gN t)) = r
        · rw [e] at h2 ⊢
          have := key_one h.c h2 hin
          exact ⟨m, top, by omega⟩
        · exact ⟨m1, List.mem_map.mpr ⟨_, h2, by rw [if_neg e]⟩, h3⟩
      · subst h1
        rw [hr, hm]
        exact ⟨m, top, Nat.le_refl _⟩
    · have e : (qs.map fun x => if x.1 = r then (x.1, m) else x).map (·.1) = qs.map (·.1) := by
        rw [List.map_map]
        refine List.map_congr_left fun x _ => ?_
        show (if x.1 = r then (x.1, m) else x).1 = x.1
        split <;> rfl
      rw [e]
      exact h.c
  · rename_i ha
    have hn : ∀ x ∈ qs, x.1 ≠ r := fun x hx e => ha (List.any_eq_true.mpr ⟨x, hx, decide_eq_true e⟩)
    refine ⟨fun x hx => ?_, fun k hk => ?_, ?_, by rw [List.length_append]; exact Nat.succ_le_succ h.l⟩
    · rcases List.mem_append.mp hx with hx | hx
      · obtain ⟨k, h1, h2⟩ := h.a x hx
        exact ⟨k, Nat.lt_succ_of_lt h1, h2⟩
      · rw [List.mem_singleton.mp hx]
        exact ⟨n, Nat.lt_succ_self _, hr, hm⟩
    · rcases Nat.lt_succ_iff_lt_or_eq.mp hk with h1 | h1
      · obtain ⟨m1, h2, h3⟩ := h.b k h1
        exact ⟨m1, List.mem_append_left _ h2, h3⟩
      · subst h1
        rw [hr, hm]
        exact ⟨m, List.mem_append_right _ (List.mem_singleton.mpr rfl), Nat.le_refl _⟩
    · rw [List.map_append, List.nodup_append]
      refine ⟨h.c, by simp, fun a ha b hb e => ?_⟩
      obtain ⟨x, hx, rfl⟩ := List.mem_map.mp ha
      have : b = r := by simpa using hb
      exact hn x hx (e.trans this)
theorem Least.min {t : Table} {ch n : Nat} {qs : List (Nat × Nat)} (h : Least t ch n qs) (x : Nat × Nat) : x ∈ qs ↔ MinAt t ch n x := by
  constructor
  · intro hx
    refine ⟨h.a x hx, fun k hk hl => ?_⟩
    obtain ⟨m, h1, h2⟩ := h.b k hk
    rw [hl] at h1
    have := key_one h.c h1 (show (x.1, x.2) ∈ qs from hx)
    omega
  · rintro ⟨⟨k, hk, h1, h2⟩, h3⟩
    obtain ⟨m, h4, h5⟩ := h.b k hk
    rw [h1] at h4
    obtain ⟨k', hk', h6, h7⟩ := h.a _ h4
    have := h3 k' hk' h6
    have e : m = x.2 := by omega
    rw [e] at h4
    exact h4
/-! the rooms that bring something -/
def fallStep (acc : List (Nat × Nat)) (x : Nat × Nat) : List (Nat × Nat) := match acc.getLast? with
  | none => acc ++ [x]
  | some y => if x.2 < y.2 then acc ++ [x] else acc
theorem fall_some {acc : List (Nat × Nat)} {x y : Nat × Nat} (h : acc.getLast? = some y) : fallStep acc x = if x.2 < y.2 then acc ++ [x] else acc := by
  unfold fallStep
  rw [h]
theorem fall_acc : ∀ (l acc : List (Nat × Nat)), l.foldl fallStep acc = acc ++ Vamvsb.fall (acc.getLast?.map (·.2)) l
  | [], acc => by cases acc.getLast?.map (·.2) <;> simp [Vamvsb.fall]
  | x :: l, acc => by
    rw [List.foldl_cons, fall_acc l]
    unfold fallStep
    cases h : acc.getLast? with
    | none =>
      have : acc = [] := List.getLast?_eq_none_iff.mp h
      subst this
      rfl
    | some y =>
      dsimp only
      show _ = acc ++ Vamvsb.fall (some y.2) (x :: l)
      rw [Vamvsb.fall]
      by_cases hc : x.2 < y.2
      · rw [if_pos hc, if_pos hc, List.getLast?_append, List.append_assoc]; rfl
      · rw [if_neg hc, if_neg hc, h]; rfl
theorem fall_fold (l : List (Nat × Nat)) : l.foldl fallStep [] = Vamvsb.fall none l := by rw [fall_acc]; rfl
theorem ok_rooms_that_bring (T : Txt K mg c) : DefOk P w K mg base CX0 3 "rooms_that_bring" ["sets", "changes"] (spRooms c) := by
  obtain ⟨f_cost_by_number, fd_cost_by_number, g_cost_by_number, k_cost_by_number, b_cost_by_number, F_cost_by_number⟩ := ok_cost_by_number (P := P) (w := w) (base := base) T
  refine DefOk.make T.d_rooms_that_bring s_rooms_that_bring (fun vs H Q E h => ?_) fun f cdv A outer s H vs Q E hr h => ?_
  · obtain ⟨sa, t, ch, rfl, hS, hok, q⟩ := h
    rfl
  · obtain ⟨sa, t, ch, rfl, hS, hok, q⟩ := h
    refine ⟨_, (pss_cons (ps_set (i := 2) s_rooms_that_bring.nd rfl (Or.inl rfl) pe_dnewK)
      (pss_cons (ps_for PassesOwn.never rfl (pi_enum rfl T.n_enumerate (pa_cons (pe_fld (pv 0) rfl) pa_nil)) (pg_tup rfl (pgs_cons (pg_name (i := 3) s_rooms_that_bring.nd rfl (Or.inl rfl)) (pgs_cons (pg_name (i := 4) s_rooms_that_bring.nd rfl (Or.inl rfl)) pgs_nil)))
      (pss_cons (ps_set (i := 5) s_rooms_that_bring.nd rfl (Or.inl rfl) (pe_call F_cost_by_number (hr.mono (by decide)) rfl g_cost_by_number k_cost_by_number b_cost_by_number .nil pass0 (pa_cons (pv 0) (pa_cons (pv 3) (pa_cons (pv 1) pa_nil)))))
      (pss_one (ps_if (PW.pt (pw_or (pt_cmp (pc_dnotin (hu_of hr) (pv 4) (pv 2)) rfl) (pw_or1 (pt_cmpR op_lt (pv 5) (pe_dget (hu_of hr) (pv 2) (pv 4) (fun _ _ => rfl)) (nomark _)))))
      (pss_one (ps_dput (hu_of hr) (pv 2) (pv 4) (pv 5) rfl))
      pss_nil))))
      (pss_cons (ps_set (i := 6) s_rooms_that_bring.nd rfl (Or.inl rfl) (pe_lst pa_nil))
      (pss_cons (ps_for PassesOwn.never rfl (pi_list (pe_callB (cr_sortedItemsI rfl) (by rfl) T.n_sorted (by decide +kernel) (pa_cons (pe_bm0 PySem.F.plainAttrs_dict PySem.F.slot_dict_items PySem.F.type_dict_items mt_itemsI (pv 2)) pa_nil))) (pg_tup rfl (pgs_cons (pg_name (i := 7) s_rooms_that_bring.nd rfl (Or.inl rfl)) (pgs_cons (pg_name (i := 5) s_rooms_that_bring.nd rfl (Or.inl rfl)) pgs_nil)))
      (pss_one (ps_if (PW.pt (pw_or (pt_cmpR op_eq (pe_callB call_len_seq (by rfl) T.n_len (by decide +kernel) (pa_cons (pv 6) pa_nil)) pe_int (nomark _)) (pw_or1 (pt_cmpR op_lt (pv 5) (pe_ix ix_tup (pe_ix ix_list (pv 6) (pe_un un_neg pe_int) (fun _ _ => rfl)) pe_int (fun _ _ => rfl)) (nomark _)))))
      (pss_one (ps_expr (pe_bm PySem.F.plainAttrs_list PySem.F.slot_list_append PySem.F.type_list_append mt_append (pv 6) (pa_cons (pe_tup (pa_cons (pv 7) (pa_cons (pv 5) pa_nil))) pa_nil))))
      pss_nil)))
      (pss_one (ps_ret (pv 6))))))), ?_⟩
    walk_at "rd"
    have hsz : sizeLine = 16777216 := rfl
    obtain ⟨dx, ra, la, ka, s1, s2, s3, s4⟩ := id hS
    have h16 := gN_le hok
    have hp16 := pow16 h16
    intro d hd
    walk_at "rd"
    refine rd_fldAt (Ex.new (o := .dK []) hd _ _ s1) T.k_AllSets T.a_AllSets_lines rfl ?_
    walk_at "rd"
    refine ⟨la, _, rfl, SqL.of (Ex.new (o := .dK []) hd _ _ s3), ?_⟩
    refine for_it (walk_enum (xs := intVs (arr (linesK t) (gN t)))) (fun i σ H' => ∃ (x y z : Option V) (qs : List (Nat × Nat)), σ = [some (.ref sa), some (.int (ch : Nat)), some (.ref d), x, y, z, none, none] ∧ Ex H H' ∧ H' d = some (.dK (qs.map entN)) ∧ Least t ch i qs) ⟨none, none, none, [], rfl, Ex.new hd, upd_same, Least.start t ch⟩ (fun i σ H' hi h => by
      obtain ⟨x, y, z, qs, _, k, _⟩ := h
      exact SqL.of (k _ _ s3)) ?_ ?_
    · rintro i v σ H1 H2 hi ⟨x0, y0, z0, qs, rfl, k1, hd1, hL⟩ ⟨tt, x1, y1, rfl, ht, rfl, h1, h2⟩
      injection h1 with h1
      subst h1
      rw [intVs_len, arr_len] at hi
      obtain ⟨n, hn, rfl⟩ := intVs_get h2
      rw [arr_get _ hi] at hn
      obtain rfl := Option.some.inj hn
      have ht2 : upd H1 tt (.tup [.int i, .int (linesK t (bitsTo i (gN t)) : Nat)]) tt = some (.tup [.int i, .int (linesK t (bitsTo i (gN t)) : Nat)]) := upd_same
      have k2 := k1.trans (Ex.new (o := .tup [.int i, .int (linesK t (bitsTo i (gN t)) : Nat)]) ht)
      have hd2 := (Ex.new (o := .tup [.int i, .int (linesK t (bitsTo i (gN t)) : Nat)]) ht) _ _ hd1
      generalize upd H1 tt (.tup [.int i, .int (linesK t (bitsTo i (gN t)) : Nat)]) = H2 at ht2 k2 hd2 ⊢
      refine rd_tup2 ht2 ?_
      walk_at "rd"
      refine ⟨sa, t, i, ch, rfl, hS.ex k2, hok, hi, ?_⟩
      walk_at "rd"
      have hv := DGet.k (k := Sum.inl (linesK t (bitsTo i (gN t)) : Int)) hd2
      rw [valV_ent] at hv
      have put : (∀ m, lookN qs (linesK t (bitsTo i (gN t))) = some m → costK t ch (bitsTo i (gN t)) < m) → ∀ (σ : L2.St), σ = [some (.ref sa), some (.int (ch : Nat)), some (.ref d), some (.int (i : Nat)), some (.int (linesK t (bitsTo i (gN t)) : Nat)), some (.int (costK t ch (bitsTo i (gN t)) : Nat)), none, none] →
          ∃ (H4 : Hp), DPut H2 d (.int (linesK t (bitsTo i (gN t)) : Nat)) (.int (costK t ch (bitsTo i (gN t)) : Nat)) H4 ∧ ∃ (x y z : Option V) (qs : List (Nat × Nat)), σ = [some (.ref sa), some (.int (ch : Nat)), some (.ref d), x, y, z, none, none] ∧ Ex H H4 ∧ H4 d = some (.dK (qs.map entN)) ∧ Least t ch (i + 1) qs := fun hlt σ hσ => by
        refine ⟨_, DPut.k (k := Sum.inl (linesK t (bitsTo i (gN t)) : Int)) hd2 (by have := hL.l; rw [List.length_map]; omega), _, _, _, _, hσ, k2.mut hd, ?_, hL.put hlt⟩
        rw [upd_same, ← putK_ent]
      refine ⟨d, _, rfl, hv, ?_⟩
      cases hlk : lookN qs (linesK t (bitsTo i (gN t))) with
      | none =>
        refine ⟨_, rfl, ?_⟩
        refine L2.iteT ?_
        refine L2.iteT ?_
        walk_at "rd"
        obtain ⟨H4, g1, g2⟩ := put (fun m e => by rw [hlk] at e; cases e) _ rfl
        exact ⟨d, H4, rfl, g1, g2⟩
      | some m =>
        rw [hlk] at hv
        refine ⟨_, rfl, ?_⟩
        refine L2.iteF ?_
        walk_at "rd"
        refine ⟨d, _, rfl, hv, ?_⟩
        walk_at "rd"
        refine rd_ite (fun hc => ?_) (fun hc => ?_)
        · walk_at "rd"
          obtain ⟨H4, g1, g2⟩ := put (fun m' e => by rw [hlk] at e; have := Option.some.inj e; omega) _ rfl
          exact ⟨d, H4, rfl, g1, g2⟩
        · walk_at "rd"
          exact ⟨_, _, _, qs, rfl, k2, hd2, hL.keep (lookN_some hlk) (by omega)⟩
    · rintro σ H1 ⟨x0, y0, z0, qs, rfl, k1, hd1, hL⟩
      rw [intVs_len, arr_len] at hL
      walk_at "rd"
      refine ⟨Nat.zero_le _, fun L0 hL0 => ?_⟩
      have hdL := (Ex.new (o := .lst []) hL0) _ _ hd1
      have kL := k1.trans (Ex.new (o := .lst []) hL0)
      have hLL : upd H1 L0 (.lst []) L0 = some (.lst []) := upd_same
      have hL0H : H L0 = none := Ex.none k1 hL0
      generalize upd H1 L0 (.lst []) = H2 at hdL kL hLL ⊢
      walk_at "rd"
      refine ⟨Or.inr (Or.inr (Or.inl ⟨rfl, Or.inl ⟨_, hdL⟩⟩)), d, _, rfl, rfl, hdL, fun vw hvw => ?_⟩
      walk_at "rd"
      have hne : qs ≠ [] := fun z => by
        obtain ⟨m, h1, _⟩ := hL.b 0 (Nat.two_pow_pos _)
        rw [z] at h1
        exact absurd h1 List.not_mem_nil
      have hvd : vw ≠ d := fun z => by rw [z, hdL] at hvw; cases hvw
      refine ⟨vw, d, qs.map ipair, rfl, upd_same, by rw [upd_ne (Ne.symm hvd), hdL, List.map_map]; rfl, by simpa using hne, fun H3 l ts k3 hl0 hperm hsort hl hts => ?_⟩
      have k4 : Ex H2 H3 := (Ex.new hvw).trans k3
      have kH : Ex H H3 := kL.trans k4
      have hlL : l ≠ L0 := fun z => by
        have := (Ex.new (o := itemsO vw d) hvw) _ _ hLL
        rw [z, this] at hl0; cases hl0
      have hL3 := k4 _ _ hLL
      -- the pairs in order
      have inj : ∀ x ∈ ts.map (·.2), ∃ y ∈ qs, x = ipair y := fun x hx => by
        obtain ⟨y, hy, e⟩ := List.mem_map.mp (hperm.mem_iff.mp hx)
        exact ⟨y, hy, e.symm⟩
      obtain ⟨ss, hss⟩ : ∃ ss : List (Nat × Nat), ts.map (·.2) = ss.map ipair := by
        refine ⟨(ts.map (·.2)).map fun x => (x.1.toNat, x.2.toNat), ?_⟩
        rw [List.map_map]
        refine (List.map_id' (ts.map (·.2))).symm.trans (List.map_congr_left fun x hx => ?_)
        obtain ⟨y, _, rfl⟩ := inj x hx
        show ipair y = ipair (((y.1 : Int)).toNat, ((y.2 : Int)).toNat)
        rw [Int.toNat_natCast, Int.toNat_natCast]
      have ipi : ∀ x y : Nat × Nat, ipair x = ipair y → x = y := fun x y e => by
        have h1 := Int.ofNat.inj (Prod.mk.inj e).1
        have h2 := Int.ofNat.inj (Prod.mk.inj e).2
        exact Prod.ext h1 h2
      rw [hss] at hperm hsort
      have hmem : ∀ x, x ∈ ss ↔ x ∈ qs := fun x => by
        have := hperm.mem_iff (a := ipair x)
        rw [List.mem_map, List.mem_map] at this
        constructor
        · intro h
          obtain ⟨y, hy, e⟩ := this.mp ⟨x, h, rfl⟩
          rw [← ipi _ _ e]; exact hy
        · intro h
          obtain ⟨y, hy, e⟩ := this.mpr ⟨x, h, rfl⟩
          rw [← ipi _ _ e]; exact hy
      have hnd : (ss.map (·.1)).Nodup := by
        have e1 : ∀ l : List (Nat × Nat), (l.map ipair).map (·.1) = (l.map (·.1)).map fun (n : Nat) => (n : Int) := fun l => by rw [List.map_map, List.map_map]; rfl
        have p1 := hperm.map (·.1)
        rw [e1, e1] at p1
        have n1 : ((qs.map (·.1)).map fun (n : Nat) => (n : Int)).Nodup := List.pairwise_map.mpr (hL.c.imp fun {a b} h e => h (Int.ofNat.inj e))
        exact (List.pairwise_map.mp (p1.nodup_iff.mpr n1)).imp fun {a b} h e => h (by rw [e])
      have hst : ss.Pairwise fun x y => x.1 < y.1 := by
        have h1 := List.pairwise_map.mp hsort
        have h2 := List.pairwise_map.mp hnd
        refine (h1.and h2).imp fun {x y} h => ?_
        have h3 := SrtO.lexB_no.mp h.1
        have h4 : ¬ ((y.1 : Int) < (x.1 : Int) ∨ _) := h3
        have h5 := h.2
        omega
      have hlen : ts.length = ss.length := by have := congrArg List.length hss; rwa [List.length_map, List.length_map] at this
      have hlq : ss.length ≤ 65536 := by
        have h1 := hperm.length_eq
        rw [List.length_map, List.length_map] at h1
        have := hL.l
        omega
      have tat : ∀ {i : Nat} {v : V}, (ts.map fun t => V.ref t.1)[i]? = some v → ∃ x a, ss[i]? = some x ∧ v = .ref a ∧ H3 a = some (.tup [.int (x.1 : Nat), .int (x.2 : Nat)]) := fun {i v} h => by
        rw [List.getElem?_map] at h
        obtain ⟨tt, htt, rfl⟩ := Option.map_eq_some_iff.mp h
        have h1 : (ss.map ipair)[i]? = some tt.2 := by rw [← hss, List.getElem?_map, htt]; rfl
        rw [List.getElem?_map] at h1
        obtain ⟨x, hx, e⟩ := Option.map_eq_some_iff.mp h1
        refine ⟨x, tt.1, hx, rfl, ?_⟩
        rw [hts tt (List.mem_of_getElem? htt), ← e]; rfl
      refine ⟨l, rfl, ⟨_, SqL.of hl⟩, ?_⟩
      refine for_it (walk_list (xs := ts.map fun t => V.ref t.1)) (fun i σ H' => ∃ (x0 y0 z0 w0 : Option V) (us : List V), σ = [some (.ref sa), some (.int (ch : Nat)), some (.ref d), x0, y0, z0, some (.ref L0), w0] ∧ But [L0] H3 H' ∧ H' L0 = some (.lst us) ∧ All2 (PairV H') us ((ss.take i).foldl fallStep []) ∧ us.length ≤ i)
        ⟨_, _, _, _, [], rfl, But.refl _, hL3, .nil, Nat.le_refl _⟩ (fun i σ H' hi h => by
        obtain ⟨_, _, _, _, us, _, k, _⟩ := h
        exact SqL.of (k _ _ (by simpa using hlL) hl)) ?_ ?_
      · rintro i v σ H4 H5 hi ⟨x0, y0, z0, w0, us, rfl, k5, hu, hA, hul⟩ ⟨rfl, hv⟩
        obtain ⟨x, a, hx, rfl, ha⟩ := tat hv
        rw [List.length_map] at hi
        have aL : a ≠ L0 := fun z => by rw [z, hL3] at ha; cases ha
        refine rd_tup2 (k5 _ _ (by simpa using aL) ha) ?_
        walk_at "rd"
        refine ⟨L0, us, rfl, Or.inl (SqL.of hu), ?_⟩
        walk_at "rd"
        have es : (ss.take (i + 1)).foldl fallStep [] = fallStep ((ss.take i).foldl fallStep []) x := by rw [take_snoc hx, List.foldl_append]; rfl
        have app : fallStep ((ss.take i).foldl fallStep []) x = (ss.take i).foldl fallStep [] ++ [x] → ∀ p1, H5 p1 = none → upd H5 p1 (.tup [.int (x.1 : Nat), .int (x.2 : Nat)]) L0 = some (.lst us) ∧ us.length < sizeLine ∧
            But [L0] H3 (upd (upd H5 p1 (.tup [.int (x.1 : Nat), .int (x.2 : Nat)])) L0 (.lst (us ++ [.ref p1]))) ∧ upd (upd H5 p1 (.tup [.int (x.1 : Nat), .int (x.2 : Nat)])) L0 (.lst (us ++ [.ref p1])) L0 = some (.lst (us ++ [.ref p1])) ∧
            All2 (PairV (upd (upd H5 p1 (.tup [.int (x.1 : Nat), .int (x.2 : Nat)])) L0 (.lst (us ++ [.ref p1])))) (us ++ [.ref p1]) ((ss.take (i + 1)).foldl fallStep []) := fun e p1 hp1 => by
          have k6 := Ex.new (o := .tup [.int (x.1 : Nat), .int (x.2 : Nat)]) hp1
          have pL : p1 ≠ L0 := fun z => by rw [z, hu] at hp1; cases hp1
          refine ⟨k6 _ _ hu, by omega, fun b o hb h => ?_, upd_same, ?_⟩
          · rw [upd_ne (by simpa using hb)]
            exact k6 _ _ (k5 b o hb h)
          · rw [es, e]
            refine All2.snoc (hA.imp fun v y hy => ?_) ⟨p1, rfl, by rw [upd_ne pL, upd_same]⟩
            obtain ⟨a', rfl, ha'⟩ := hy
            exact ⟨a', rfl, by rw [upd_ne (fun z => by rw [z, hu] at ha'; cases ha')]; exact k6 _ _ ha'⟩
        refine rd_ite (fun hc => ?_) (fun hc => ?_)
        · refine L2.iteT ?_
          walk_at "rd"
          have hus : us = [] := List.eq_nil_of_length_eq_zero (by injection hc with hc; omega)
          have hacc : (ss.take i).foldl fallStep [] = [] := by
            have := hA.len
            rw [hus] at this
            exact List.eq_nil_of_length_eq_zero this.symm
          refine ⟨Or.inl ⟨rfl, _, SqL.of hu⟩, ?_⟩
          walk_at "rd"
          refine ⟨(show 2 ≤ sizeLine by decide), fun p1 hp1 => ?_⟩
          walk_at "rd"
          obtain ⟨g1, g2, g3, g4, g5⟩ := app (by rw [hacc]; rfl) p1 hp1
          exact ⟨L0, us, _, rfl, rfl, g1, g2, _, _, _, _, us ++ [.ref p1], rfl, g3, g4, g5, by rw [List.length_append]; exact Nat.succ_le_succ hul⟩
        · have hus : us ≠ [] := fun z => hc (by rw [z]; rfl)
          obtain ⟨us', v', rfl⟩ : ∃ us' v', us = us' ++ [v'] := ⟨us.dropLast, us.getLast hus, (List.dropLast_concat_getLast hus).symm⟩
          obtain ⟨y, hy, a', rfl, ha'⟩ := hA.get (i := us'.length) (a := v') (by simp)
          have hlast : ((ss.take i).foldl fallStep []).getLast? = some y := by
            rw [List.getLast?_eq_getElem?]
            have := hA.len
            rw [List.length_append, List.length_singleton] at this
            rw [← this]
            exact hy
          have est : fallStep ((ss.take i).foldl fallStep []) x = if x.2 < y.2 then (ss.take i).foldl fallStep [] ++ [x] else (ss.take i).foldl fallStep [] := by
            exact fall_some hlast
          walk_at "rd"
          refine ⟨L0, _, -1, _, rfl, rfl, SqL.of hu, atI_last _ _, ?_⟩
          walk_at "rd"
          refine ⟨a', _, 1, _, rfl, rfl, SqT.mk ha', rfl, ?_⟩
          walk_at "rd"
          refine rd_ite (fun hlt => ?_) (fun hlt => ?_)
          · walk_at "rd"
            refine ⟨Or.inl ⟨rfl, _, SqL.of hu⟩, ?_⟩
            walk_at "rd"
            refine ⟨(show 2 ≤ sizeLine by decide), fun p1 hp1 => ?_⟩
            walk_at "rd"
            obtain ⟨g1, g2, g3, g4, g5⟩ := app (by rw [est, if_pos (by omega)]) p1 hp1
            exact ⟨L0, _, _, rfl, rfl, g1, g2, _, _, _, _, _, rfl, g3, g4, g5, by rw [List.length_append]; exact Nat.succ_le_succ hul⟩
          · walk_at "rd"
            exact ⟨_, _, _, _, _, rfl, k5, hu, by rw [es, est, if_neg (by omega)]; exact hA, Nat.le_succ_of_le hul⟩
      · rintro σ H4 ⟨x0, y0, z0, w0, us, rfl, k5, hu, hA, hul⟩
        rw [List.length_map, hlen] at hul
        rw [List.length_map, hlen, List.take_length, fall_fold] at hA
        walk_at "rd"
        refine q L0 H4 us ss (fun b o e => k5 b o (by simpa using ne_of_none e hL0H) (kH b o e)) hL0H hu (Nat.le_trans hul hlq) hst (fun x => (hmem x).trans (hL.min x)) hA
end
end Bk
end
section
local macro_rules | `(tactic| walk_at "rd1") => `(tactic| first
  | with_reducible refine Bk.rd_seq ?_
  | ((with_reducible refine' Bk.rd_var ?k1 ?_); (case k1 => exact rfl))
  | with_reducible refine Bk.rd_c ?_
  | with_reducible refine Bk.rd_op ?_
  | with_reducible refine Bk.rd_I0 ?_
  | ((with_reducible refine' Bk.rd_I ?k1 ?_); (case k1 => first | assumption | omega))
  | with_reducible refine Bk.rd_test ?_
  | with_reducible refine Bk.rd_tB ?_
  | with_reducible refine Bk.rd_bl ?_
  | ((with_reducible refine' Bk.rd_eq ?k1 ?_); (case k1 => exact rfl))
  | ((with_reducible refine' Bk.rd_ne ?k1 ?_); (case k1 => exact rfl))
  | with_reducible refine Bk.rd_and ?_
  | with_reducible refine Bk.rd_or ?_
  | with_reducible refine Bk.rd_not ?_
  | with_reducible refine Bk.rd_andV ?_
  | with_reducible refine Bk.rd_isN ?_
  | with_reducible refine Bk.rd_notN ?_
  | with_reducible refine Bk.rd_asg ?_
  | with_reducible refine Bk.rd_nm ?_
  | with_reducible refine Bk.rd_ret ?_
  | with_reducible refine Bk.rd_drop ?_
  | with_reducible refine Bk.rd_if ?_
  | with_reducible refine Bk.rd_ifE ?_
  | ((with_reducible refine' Bk.rd_aug ?k1 ?_); (case k1 => exact rfl))
  | with_reducible refine Bk.rd_ipI ?_
  | with_reducible refine Bk.rd_nil ?_
  | with_reducible refine Bk.rd_cons ?_
  | with_reducible refine Bk.rd_CB ?_
  | with_reducible refine Bk.rd_call ?_
  | with_reducible refine Bk.rd_callS ?_
  | with_reducible refine Bk.rd_un ?_
  | with_reducible refine Bk.rd_U ?_
  | with_reducible refine Bk.rd_fld ?_
  | with_reducible refine Bk.rd_sfld ?_
  | with_reducible refine Bk.rd_tup ?_
  | with_reducible refine Bk.rd_lst ?_
  | with_reducible refine Bk.rd_next ?_
  | with_reducible refine Bk.rd_brk ?_
  | with_reducible refine Bk.rd_BM ?_
  | with_reducible refine Bk.rd_BM0 ?_
  | with_reducible refine Bk.rd_for ?_
  | with_reducible refine Bk.rd_iStr ?_
  | with_reducible refine Bk.rd_fldaug ?_
  | with_reducible refine Bk.rd_mkO ?_
  | with_reducible refine Bk.rd_js ?_
  | with_reducible refine Bk.rd_js0 ?_
  | with_reducible refine Bk.rd_fmt ?_
  | with_reducible refine Bk.rd_erI ?_
  | with_reducible refine Bk.rd_erSet ?_
  | with_reducible refine Bk.rd_lc ?_
  | with_reducible refine Bk.rd_yes' ?_
  | with_reducible refine Bk.rd_iList ?_
  | with_reducible refine Bk.rd_iTup ?_
  | with_reducible refine Bk.rd_iRng1 ?_
  | with_reducible refine Bk.rd_iEnum ?_
  | with_reducible refine Bk.rd_iZip ?_
  | with_reducible refine Bk.rd_iEnumT ?_
  | with_reducible refine Bk.rd_M1 ?_
  | with_reducible refine Bk.rd_dget2 ?_
  | with_reducible refine Bk.rd_dput ?_
  | with_reducible refine Bk.rd_dnotin ?_
  | with_reducible refine Bk.rd_dget ?_
  | with_reducible refine Bk.rd_sl ?_
  | with_reducible refine Bk.rd_noPart ?_
  | with_reducible refine Bk.rd_part ?_
  | with_reducible refine Bk.rd_int ?_
  | with_reducible refine Bk.rd_str ?_
  | with_reducible refine Bk.rd_isstr ?_
  | with_reducible refine Bk.rd_make ?_
  | with_reducible refine Bk.rd_meth ?_
  | with_reducible refine L2.iteT ?_
  | with_reducible refine L2.iteF ?_)
local macro_rules | `(tactic| walk_at "rd") => `(tactic| repeat (walk_at "rd1"))
local macro_rules | `(tactic| walk_at "few") => `(tactic| first | exact (show (0 : Nat) < 1000 by decide) | exact (show (1 : Nat) < 1000 by decide) | exact (show (2 : Nat) < 1000 by decide) | exact (show (3 : Nat) < 1000 by decide) | exact (show (4 : Nat) < 1000 by decide) | exact (show (5 : Nat) < 1000 by decide) | exact (show (6 : Nat) < 1000 by decide) | exact (show (7 : Nat) < 1000 by decide))

/-! sets of groupings, kept lists: what they cost, step by step -/
namespace Bk
open PySem hiding Tok
open PySem.Spec hiding Row
open PyProof.Rows L2
open Vamvsa (Table Row Ask columnsOf)
section
variable {P : Program} {w : World} {K : PySem.W.Frag} {mg : Str → Option Value} {base : Heap} {c : Cs}
/-- kept groupings, as a list -/
def Gs (t : Table) (k : List Nat) : Prop := k.length ≤ 100 ∧ ∀ g ∈ k, g < gN t
def spLinesOf (K : PySem.W.Frag) (c : Cs) : Sp := fun vs H Q _ => ∃ (ga ka : Addr) (t : Table) (k : List Nat), vs = [.ref ga, .ref ka] ∧ GrpAt c H ga t ∧ TOk t ∧ SqL K H ka (intVs k) ∧ Gs t k ∧ ∀ H', Ex H H' → Q (.int (linesK t k : Nat)) H'
theorem ok_lines_of (T : Txt K mg c) : DefOk P w K mg base CX0 1 "lines_of" ["groupings", "kept"] (spLinesOf K c) := by
  refine DefOk.make T.d_lines_of s_lines_of (fun vs H Q E h => ?_) fun f cdv A outer s H vs Q E hr h => ?_
  · obtain ⟨ga, ka, t, k, rfl, hG, hok, hk, hgs, q⟩ := h
    rfl
  · obtain ⟨ga, ka, t, k, rfl, hG, hok, hk, hgs, q⟩ := h
    refine ⟨_, (pss_one (ps_ret (pe_callB (cr_sum rfl) (by rfl) T.n_sum (by decide +kernel) (pa_cons (pe_lc (own := [("grouping", 2)]) rfl s_lines_of.nd (pi_list (pv 1)) (blkOk_by (own := [("grouping", 2)]) (N := N_lines_of) (sc := defScope (top 20)) (by decide +kernel)) (fun _ _ _ _ _ => (pg_name (i := 2) s_lines_of.nd rfl (Or.inl rfl))) (fun _ _ _ _ _ => pts_nil) (fun _ _ _ _ _ => (pe_ix (ix_listK (K := K) (by rfl)) (pe_fldK (K := K) (by rfl) (pv 0) (by rfl)) (pv 2) (fun _ _ => rfl)))) pa_nil)))), ?_⟩
    walk_at "rd"
    have hsz : sizeLine = 16777216 := rfl
    have h16 := gN_le hok
    obtain ⟨dx, aa, sa, qvs, g1, g2, g3, g4⟩ := id hG
    refine ⟨ka, rfl, ⟨_, hk⟩, fun D hD => ?_⟩
    refine lc_it (walk_list (xs := intVs k)) (LPv H D fun i => intVs ((k.take i).map (sz t))) (LPv.start hD rfl) (fun i H' hi h => seq_ex h.1 hk) ?_ ?_
    · rintro i v H1 H2 hi hP ⟨rfl, hv⟩
      obtain ⟨g, hg, rfl⟩ := intVs_get hv
      have hgn := hgs.2 g (List.mem_of_getElem? hg)
      walk_at "rd"
      refine ⟨rfl, ?_⟩
      walk_at "rd"
      refine rd_fldAt (hP.1 _ _ g1) T.k_Groupings T.a_Groupings_sizes rfl ?_
      walk_at "rd"
      refine ⟨sa, _, (g : Int), _, rfl, rfl, SqL.of (hP.1 _ _ g4), atI_nat (intVs_at (szs_get t hgn)), ?_⟩
      refine hP.put (fun _ _ e => e) hD ?_ (intVs_snoc hg)
      show (intVs _).length < _
      have := hgs.1
      rw [intVs_len, List.length_map, List.length_take]; omega
    · rintro H1 ⟨k1, h1⟩
      rw [intVs_len] at h1
      dsimp only at h1
      rw [List.take_length, intVs_ints] at h1
      walk_at "rd"
      refine ⟨D, _, rfl, SqL.of h1, ?_⟩
      have e : (((k.map (sz t)).map fun (n : Nat) => (n : Int)).sum) = ((linesK t k : Nat) : Int) := by
        unfold linesK
        induction k.map (sz t) with
        | nil => rfl
        | cons x r ih => rw [List.map_cons, List.sum_cons, List.sum_cons, ih, Int.natCast_add]
      rw [e]
      exact q H1 k1
/-- what is read: a pair -/
def RdV (H : Hp) (v : V) (t : Table) (o : Option Nat) : Prop := ∃ a, v = .ref a ∧ H a = some (.tup [.int (sizeRd t o : Nat), match o with | none => .non | some g => .int (g : Nat)])
theorem rd_ckw {σ : L2.St} {H : Hp} {Q : VK} {r : List V → List V → Hp → VK → Prop} {t tk : TA} (q : t σ H fun vs H1 => tk σ H1 fun zs H2 => r vs zs H2 Q) : tCKw r t tk σ H Q := q
def spWhatRead (K : PySem.W.Frag) (c : Cs) : Sp := fun vs H Q _ => ∃ (ga ka : Addr) (t : Table) (q : Nat) (k : List Nat), vs = [.ref ga, .int q, .ref ka] ∧ GrpAt c H ga t ∧ TOk t ∧ SqL K H ka (intVs k) ∧ Gs t k ∧
  ∀ H' v o, Ex H H' → IsRd t k q o → RdV H' v t o → Q v H'
theorem ok_what_is_read (T : Txt K mg c) : DefOk P w K mg base CX0 2 "what_is_read" ["groupings", "question", "kept"] (spWhatRead K c) := by
  obtain ⟨f_has_all, fd_has_all, g_has_all, k_has_all, b_has_all, F_has_all⟩ := ok_has_all (P := P) (w := w) (base := base) T
  refine DefOk.make T.d_what_is_read s_what_is_read (fun vs H Q E h => ?_) fun f cdv A outer s H vs Q E hr h => ?_
  · obtain ⟨ga, ka, t, q', k, rfl, hG, hok, hk, hgs, q⟩ := h
    rfl
  · obtain ⟨ga, ka, t, q', k, rfl, hG, hok, hk, hgs, q⟩ := h
    refine ⟨_, (pss_cons (ps_setLc (i := 3) (own := [("grouping", 4)]) rfl s_what_is_read.nd rfl rfl (sw_true rfl rfl rfl (by decide +kernel)) (pi_list (pv 2)) (blkOk_by (own := [("grouping", 4)]) (N := N_what_is_read) (sc := defScope (top 23)) (by decide +kernel)) (fun _ _ _ _ _ => (pg_name (i := 4) s_what_is_read.nd rfl (Or.inl rfl))) (fun _ _ _ _ _ => (pts_one (pt_val (pe_call F_has_all (hr.mono (by decide)) rfl g_has_all k_has_all b_has_all .nil pass0 (pa_cons (pv 4) (pa_cons (pv 1) pa_nil)))))) (fun _ _ _ _ _ => (pe_tup (pa_cons (pe_ix (ix_listK (K := K) (by rfl)) (pe_fldK (K := K) (by rfl) (pv 0) (by rfl)) (pv 4) (fun _ _ => rfl)) (pa_cons (pv 4) pa_nil)))))
      (pss_one (ps_ret (pe_callBK (cr_minTD rfl hr.units) (by rfl) T.n_min (by decide +kernel) (pa_cons (pv 3) pa_nil) (pk_cons (pe_tup (pa_cons (pe_fld (pv 0) rfl) (pa_cons pe_non pa_nil))) pk_nil))))), ?_⟩
    walk_at "rd"
    have hsz : sizeLine = 16777216 := rfl
    have h16 := gN_le hok
    obtain ⟨dx, aa, sa, qvs, g1, g2, g3, g4⟩ := id hG
    refine ⟨ka, rfl, ⟨_, hk⟩, fun D hD => ?_⟩
    refine lc_it (walk_list (xs := intVs k)) (fun i H' => ∃ L : List (Addr × Int × Int), Ex H H' ∧ H' D = some (.lst (L.map fun p => V.ref p.1)) ∧ (∀ p ∈ L, H' p.1 = some (.tup [.int p.2.1, .int p.2.2]) ∧ p.1 ≠ D) ∧ L.map (·.2) = ((k.take i).filter fun g => can g q').map fun g => (((sz t g : Nat) : Int), ((g : Nat) : Int)))
      ⟨[], Ex.new hD, upd_same, (fun p hp => absurd hp List.not_mem_nil), rfl⟩ (fun i H' hi h => seq_ex h.choose_spec.1 hk) ?_ ?_
    · rintro i v H1 H2 hi ⟨L, k1, hD1, hL, hLs⟩ ⟨rfl, hv⟩
      obtain ⟨g, hg, rfl⟩ := intVs_get hv
      have hgn := hgs.2 g (List.mem_of_getElem? hg)
      walk_at "rd"
      refine ⟨rfl, ?_⟩
      walk_at "rd"
      have hkl : L.length ≤ i := by
        have := congrArg List.length hLs
        rw [List.length_map, List.length_map] at this
        have h2 := List.length_filter_le (fun g => can g q') (k.take i)
        rw [List.length_take] at h2
        omega
      have hi' : i < k.length := by rw [intVs_len] at hi; exact hi
      have hg100 := hgs.1
      refine ⟨g, q', rfl, ?_⟩
      walk_at "rd"
      refine rd_iteB (fun hc => ?_) (fun hc => ?_)
      · walk_at "rd"
        refine rd_fldAt (k1 _ _ g1) T.k_Groupings T.a_Groupings_sizes rfl ?_
        walk_at "rd"
        refine ⟨sa, _, (g : Int), _, rfl, rfl, SqL.of (k1 _ _ g4), atI_nat (intVs_at (szs_get t hgn)), ?_⟩
        walk_at "rd"
        refine ⟨(show 2 ≤ sizeLine by decide), fun p1 hp1 => ?_⟩
        have pD : p1 ≠ D := fun z => by rw [z, hD1] at hp1; cases hp1
        have k2 := Ex.new (o := .tup [.int (sz t g : Nat), .int (g : Nat)]) hp1
        refine ⟨_, k2 _ _ hD1, by rw [List.length_map]; omega, L ++ [(p1, ((sz t g : Nat) : Int), ((g : Nat) : Int))], (k1.trans k2).mut hD, by rw [upd_same, List.map_append]; rfl, fun y hy => ?_, ?_⟩
        · rcases List.mem_append.mp hy with hy | hy
          · obtain ⟨h1, h2⟩ := hL y hy
            exact ⟨by rw [upd_ne h2]; exact k2 _ _ h1, h2⟩
          · rw [List.mem_singleton.mp hy]
            exact ⟨by rw [upd_ne pD, upd_same], pD⟩
        · rw [List.map_append, hLs, take_snoc hg, List.filter_append, List.map_append, List.filter_cons, hc]; rfl
      · refine ⟨L, k1, hD1, hL, ?_⟩
        rw [hLs, take_snoc hg, List.filter_append, List.filter_cons, hc]
        simp
    · rintro H1 ⟨L, k1, hD1, hL, hLs⟩
      rw [intVs_len, List.take_length] at hLs
      walk_at "rd"
      refine rd_ckw ?_
      walk_at "rd"
      refine rd_fldAt (k1 _ _ g1) T.k_Groupings T.a_Groupings_whole rfl ?_
      walk_at "rd"
      refine ⟨(show 2 ≤ sizeLine by decide), fun p1 hp1 => ?_⟩
      have k2 := Ex.new (o := .tup [.int (t.rows.length : Nat), .non]) hp1
      walk_at "rd"
      have hmem : ∀ g : Nat, (∃ a, (a, ((sz t g : Nat) : Int), ((g : Nat) : Int)) ∈ L) ↔ g ∈ k ∧ can g q' = true := fun g => by
        constructor
        · rintro ⟨a, ha⟩
          have h1 : (((sz t g : Nat) : Int), ((g : Nat) : Int)) ∈ L.map (·.2) := List.mem_map.mpr ⟨_, ha, rfl⟩
          rw [hLs] at h1
          obtain ⟨g', hg', e⟩ := List.mem_map.mp h1
          have e := Int.ofNat.inj (Prod.mk.inj e).2
          rw [← e]
          exact List.mem_filter.mp hg'
        · intro h
          have h1 : (((sz t g : Nat) : Int), ((g : Nat) : Int)) ∈ L.map (·.2) := by rw [hLs]; exact List.mem_map.mpr ⟨g, List.mem_filter.mpr h, rfl⟩
          obtain ⟨y, hy, e⟩ := List.mem_map.mp h1
          exact ⟨y.1, by rw [← e]; exact hy⟩
      refine ⟨D, L, _, rfl, rfl, SqL.of (k2 _ _ hD1), fun p hp => SqT.mk (k2 _ _ (hL p hp).1), fun h0 => ?_, fun p hp hmin => ?_⟩
      · refine q _ _ none (k1.trans k2) (fun g hg => ?_) ⟨p1, rfl, upd_same⟩
        cases hc : can g q' with
        | false => rfl
        | true =>
          obtain ⟨a, ha⟩ := (hmem g).mpr ⟨hg, hc⟩
          rw [h0] at ha
          exact absurd ha List.not_mem_nil
      · have h1 : p.2 ∈ L.map (·.2) := List.mem_map.mpr ⟨p, hp, rfl⟩
        rw [hLs] at h1
        obtain ⟨v, hv, ev⟩ := List.mem_map.mp h1
        obtain ⟨hv1, hv2⟩ := List.mem_filter.mp hv
        refine q _ _ (some v) (k1.trans k2) ⟨hv1, hv2, fun g hg hc => ?_⟩ ⟨p.1, rfl, ?_⟩
        · obtain ⟨a, ha⟩ := (hmem g).mpr ⟨hg, hc⟩
          have h2 := SrtO.lexB_no.mp (hmin _ ha)
          rw [← ev] at h2
          have h3 : ¬ (((sz t g : Nat) : Int) < ((sz t v : Nat) : Int) ∨ ((sz t g : Nat) : Int) = ((sz t v : Nat) : Int) ∧ ((g : Nat) : Int) < ((v : Nat) : Int)) := h2
          omega
        · rw [k2 _ _ (hL p hp).1, ← ev]; rfl
/-- how many lines, as a fold -/
theorem rdq_facts (t : Table) (q : Nat) : ∀ (k : List Nat) (r : Nat), let m := k.foldl (fun r g => if can g q = true then Nat.min r (sz t g) else r) r
    m ≤ r ∧ (∀ g ∈ k, can g q = true → m ≤ sz t g) ∧ (m = r ∨ ∃ g ∈ k, can g q = true ∧ m = sz t g)
  | [], r => ⟨Nat.le_refl _, fun g h => absurd h List.not_mem_nil, .inl rfl⟩
  | g :: k, r => by
    obtain ⟨h1, h2, h3⟩ := rdq_facts t q k (if can g q = true then Nat.min r (sz t g) else r)
    rw [List.foldl_cons]
    generalize List.foldl (fun r g => if can g q = true then Nat.min r (sz t g) else r) (if can g q = true then Nat.min r (sz t g) else r) k = m at h1 h2 h3
    have hm : (if can g q = true then Nat.min r (sz t g) else r) ≤ r := by
      split
      · exact Nat.min_le_left _ _
      · exact Nat.le_refl _
    refine ⟨Nat.le_trans h1 hm, fun g' hg' hc => ?_, ?_⟩
    · rcases List.mem_cons.mp hg' with e | hg'
      · rw [e] at hc ⊢
        rw [if_pos hc] at h1
        exact Nat.le_trans h1 (Nat.min_le_right _ _)
      · exact h2 g' hg' hc
    · rcases h3 with h3 | ⟨g', hg', hc, e⟩
      · by_cases hc : can g q = true
        · rw [if_pos hc] at h3
          rcases Nat.le_total r (sz t g) with hl | hl
          · left; rw [h3]; exact Nat.min_eq_left hl
          · right; exact ⟨g, List.mem_cons_self, hc, by rw [h3]; exact Nat.min_eq_right hl⟩
        · rw [if_neg hc] at h3
          exact .inl h3
      · exact .inr ⟨g', List.mem_cons_of_mem _ hg', hc, e⟩
theorem rd_size {t : Table} (hok : TOk t) {k : List Nat} {q : Nat} {o : Option Nat} (h : IsRd t k q o) : sizeRd t o = rdq t k q := by
  obtain ⟨h1, h2, h3⟩ := rdq_facts t q k t.rows.length
  show _ = List.foldl _ _ _
  generalize List.foldl (fun r g => if can g q = true then Nat.min r (sz t g) else r) t.rows.length k = m at h1 h2 h3
  cases o with
  | none =>
    rcases h3 with h3 | ⟨g, hg, hc, _⟩
    · exact h3.symm
    · rw [h g hg] at hc; cases hc
  | some v =>
    obtain ⟨v1, v2, v3⟩ := h
    have h4 := h2 v v1 v2
    show sz t v = m
    rcases h3 with h3 | ⟨g, hg, hc, e⟩
    · have := sz_le hok v
      omega
    · have := v3 g hg hc
      omega
def spReadingOf (K : PySem.W.Frag) (c : Cs) : Sp := fun vs H Q _ => ∃ (ga ka : Addr) (t : Table) (k : List Nat), vs = [.ref ga, .ref ka] ∧ GrpAt c H ga t ∧ TOk t ∧ SqL K H ka (intVs k) ∧ Gs t k ∧ ∀ H', Ex H H' → Q (.int (readK t k : Nat)) H'
theorem sum_nats (l : List Nat) : (l.map fun (n : Nat) => (n : Int)).sum = ((l.sum : Nat) : Int) := by
  induction l with
  | nil => rfl
  | cons x r ih => rw [List.map_cons, List.sum_cons, List.sum_cons, ih, Int.natCast_add]
theorem ok_reading_of (T : Txt K mg c) : DefOk P w K mg base CX0 3 "reading_of" ["groupings", "kept"] (spReadingOf K c) := by
  obtain ⟨f_what_is_read, fd_what_is_read, g_what_is_read, k_what_is_read, b_what_is_read, F_what_is_read⟩ := ok_what_is_read (P := P) (w := w) (base := base) T
  refine DefOk.make T.d_reading_of s_reading_of (fun vs H Q E h => ?_) fun f cdv A outer s H vs Q E hr h => ?_
  · obtain ⟨ga, ka, t, k, rfl, hG, hok, hk, hgs, q⟩ := h
    rfl
  · obtain ⟨ga, ka, t, k, rfl, hG, hok, hk, hgs, q⟩ := h
    refine ⟨_, (pss_one (ps_ret (pe_callB (cr_sum rfl) (by rfl) T.n_sum (by decide +kernel) (pa_cons (pe_lc (own := [("question", 2), ("times", 3)]) rfl s_reading_of.nd (pi_list (pe_fld (pv 0) rfl)) (blkOk_by (own := [("question", 2), ("times", 3)]) (N := N_reading_of) (sc := defScope (top 22)) (by decide +kernel)) (fun _ _ _ _ _ => (pg_tupK (K := K) (n := 2) (by rfl) (by rfl) (pgs_cons (pg_name (i := 2) s_reading_of.nd rfl (Or.inl rfl)) (pgs_cons (pg_name (i := 3) s_reading_of.nd rfl (Or.inl rfl)) pgs_nil)))) (fun _ _ _ _ _ => pts_nil) (fun _ _ _ _ _ => (pe_op op_mul (pv 3) (pe_ix (ix_tupK (K := K) (by rfl)) (pe_call F_what_is_read (hr.mono (by decide)) rfl g_what_is_read k_what_is_read b_what_is_read .nil pass0 (pa_cons (pv 0) (pa_cons (pv 2) (pa_cons (pv 1) pa_nil)))) pe_int (fun _ _ => rfl))))) pa_nil)))), ?_⟩
    walk_at "rd"
    have hsz : sizeLine = 16777216 := rfl
    have h8 := hok.q8
    obtain ⟨dx, aa, sa, qvs, g1, g2, g3, g4⟩ := id hG
    have hlq : qvs.length = t.asks.length := g3.len
    refine rd_fldAt g1 T.k_Groupings T.a_Groupings_asked rfl ?_
    refine ⟨aa, rfl, ⟨_, SqL.of g2⟩, fun D hD => ?_⟩
    refine lc_it (walk_list (xs := qvs)) (LPv H D fun i => intVs ((t.asks.take i).map fun a => a.k * rdq t k a.g)) (LPv.start hD rfl) (fun i H' hi h => SqL.of (h.1 _ _ g2)) ?_ ?_
    · rintro i v H1 H2 hi hP ⟨rfl, hv⟩
      obtain ⟨x, hx, qa, rfl, hqa⟩ := g3.get hv
      have hok' := hok.ask x (List.mem_of_getElem? hx)
      refine rd_tup2 (hP.1 _ _ hqa) ⟨rfl, ?_⟩
      walk_at "rd"
      refine ⟨ga, ka, t, x.g, k, rfl, hG.ex hP.1, hok, seq_ex hP.1 hk, hgs, fun H3 v o k3 hrd hV => ?_⟩
      obtain ⟨a', rfl, ha'⟩ := hV
      walk_at "rd"
      refine ⟨a', _, 0, _, rfl, rfl, SqT.mk ha', rfl, ?_⟩
      refine rd_I (mulS ⟨by omega, by omega⟩) ?_
      rw [rd_size hok hrd]
      refine hP.put k3 hD ?_ ?_
      · show (intVs _).length < _
        rw [intVs_len, List.length_map, List.length_take]; omega
      · show intVs _ = intVs _ ++ [_]
        have ee : V.int ((x.k : Int) * ((rdq t k x.g : Nat) : Int)) = V.int ((x.k * rdq t k x.g : Nat) : Int) := by rw [Int.natCast_mul]
        rw [take_snoc hx, List.map_append, intVs_app, ee]; rfl
    · rintro H1 ⟨k1, h1⟩
      dsimp only at h1
      rw [hlq, List.take_length, intVs_ints] at h1
      walk_at "rd"
      refine ⟨D, _, rfl, SqL.of h1, ?_⟩
      rw [sum_nats]
      exact q H1 k1
def spCostOf (K : PySem.W.Frag) (c : Cs) : Sp := fun vs H Q _ => ∃ (ga ka : Addr) (t : Table) (k : List Nat) (ch : Nat), vs = [.ref ga, .ref ka, .int ch] ∧ GrpAt c H ga t ∧ TOk t ∧ SqL K H ka (intVs k) ∧ Gs t k ∧ ∀ H', Ex H H' → Q (.int (costK t ch k : Nat)) H'
theorem ok_cost_of (T : Txt K mg c) : DefOk P w K mg base CX0 4 "cost_of" ["groupings", "kept", "changes"] (spCostOf K c) := by
  obtain ⟨f_reading_of, fd_reading_of, g_reading_of, k_reading_of, b_reading_of, F_reading_of⟩ := ok_reading_of (P := P) (w := w) (base := base) T
  obtain ⟨f_upkeep, fd_upkeep, g_upkeep, k_upkeep, b_upkeep, F_upkeep⟩ := ok_upkeep (P := P) (w := w) (base := base) T
  refine DefOk.make T.d_cost_of s_cost_of (fun vs H Q E h => ?_) fun f cdv A outer s H vs Q E hr h => ?_
  · obtain ⟨ga, ka, t, k, ch, rfl, hG, hok, hk, hgs, q⟩ := h
    rfl
  · obtain ⟨ga, ka, t, k, ch, rfl, hG, hok, hk, hgs, q⟩ := h
    refine ⟨_, (pss_one (ps_ret (pe_op op_add (pe_call F_reading_of (hr.mono (by decide)) rfl g_reading_of k_reading_of b_reading_of .nil pass0 (pa_cons (pv 0) (pa_cons (pv 1) pa_nil))) (pe_call F_upkeep (hr.mono (by decide)) rfl g_upkeep k_upkeep b_upkeep .nil pass0 (pa_cons (pe_callB call_len_seq (by rfl) T.n_len (by decide +kernel) (pa_cons (pv 1) pa_nil)) (pa_cons (pv 2) pa_nil)))))), ?_⟩
    walk_at "rd"
    refine ⟨ga, ka, t, k, rfl, hG, hok, hk, hgs, fun H1 k1 => ?_⟩
    walk_at "rd"
    refine ⟨ka, _, rfl, Or.inl (seq_ex k1 hk), ?_⟩
    rw [intVs_len]
    walk_at "rd"
    have := hgs.1
    refine ⟨_, _, rfl, by omega, by omega, ?_⟩
    walk_at "rd"
    have e : V.int (((readK t k : Nat) : Int) + 2 * ((k.length : Nat) : Int) * (ch : Int)) = V.int ((costK t ch k : Nat) : Int) := by
      unfold costK
      rw [Int.natCast_add, Int.natCast_mul, Int.natCast_mul]; rfl
    rw [e]
    exact q H1 k1
/-! ### step by step -/
def stepOne (t : Table) (room ch : Nat) (k : List Nat) (b : Option Nat × Nat) (g : Nat) : Option Nat × Nat :=
  if sz t g + linesK t k ≤ room ∧ g ∉ k ∧ costK t ch (k ++ [g]) < b.2 then (some g, costK t ch (k ++ [g])) else b
def stepF (t : Table) (room ch : Nat) (k : List Nat) (n : Nat) : Option Nat × Nat := (List.range n).foldl (stepOne t room ch k) (none, costK t ch k)
def optV : Option Nat → V
  | none => .non
  | some g => .int (g : Nat)
theorem inV_ints (g : Nat) : ∀ k : List Nat, inV (.int (g : Nat)) (intVs k) = decide (g ∈ k)
  | [] => rfl
  | x :: r => by
    have ih := inV_ints g r
    unfold inV intVs at ih ⊢
    rw [List.map_cons, List.any_cons, ih]
    have e : eqV (V.int (x : Nat)) (V.int (g : Nat)) = decide (x = g) := by
      show decide _ = _
      by_cases h : x = g
      · rw [decide_eq_true h, h]; simp
      · rw [decide_eq_false h]
        exact decide_eq_false (fun z => h (by first | exact_mod_cast z | omega))
    rw [e]
    by_cases h : x = g
    · rw [decide_eq_true h, h]; simp
    · rw [decide_eq_false h]
      simp [List.mem_cons, Ne.symm h]
theorem intVs_flat (k : List Nat) : (intVs k).all flatV = true := by
  unfold intVs
  rw [List.all_map, List.all_eq_true]
  intro x _
  rfl
def spBestStep (c : Cs) : Sp := fun vs H Q _ => ∃ (ga ka : Addr) (t : Table) (k : List Nat) (room ch : Nat), vs = [.ref ga, .ref ka, .int room, .int ch] ∧ GrpAt c H ga t ∧ TOk t ∧ H ka = some (.lst (intVs k)) ∧ Gs t k ∧ k.length ≤ 50 ∧
  ∀ H', Ex H H' → Q (optV (stepF t room ch k (gN t)).1) H'
theorem ok_best_step (T : Txt K mg c) : DefOk P w K mg base CX0 5 "best_step" ["groupings", "kept", "room", "changes"] (spBestStep c) := by
  obtain ⟨f_lines_of, fd_lines_of, g_lines_of, k_lines_of, b_lines_of, F_lines_of⟩ := ok_lines_of (P := P) (w := w) (base := base) T
  obtain ⟨f_cost_of, fd_cost_of, g_cost_of, k_cost_of, b_cost_of, F_cost_of⟩ := ok_cost_of (P := P) (w := w) (base := base) T
  refine DefOk.make T.d_best_step s_best_step (fun vs H Q E h => ?_) fun f cdv A outer s H vs Q E hr h => ?_
  · obtain ⟨ga, ka, t, k, room, ch, rfl, hG, hok, hk, hgs, hk50, q⟩ := h
    rfl
  · obtain ⟨ga, ka, t, k, room, ch, rfl, hG, hok, hk, hgs, hk50, q⟩ := h
    refine ⟨_, (pss_cons (ps_set (i := 4) s_best_step.nd rfl (Or.inl rfl) (pe_op op_sub (pv 2) (pe_call F_lines_of (hr.mono (by decide)) rfl g_lines_of k_lines_of b_lines_of .nil pass0 (pa_cons (pv 0) (pa_cons (pv 1) pa_nil)))))
      (pss_cons (ps_set (i := 5) s_best_step.nd rfl (Or.inl rfl) (pe_call F_cost_of (hr.mono (by decide)) rfl g_cost_of k_cost_of b_cost_of .nil pass0 (pa_cons (pv 0) (pa_cons (pv 1) (pa_cons (pv 3) pa_nil)))))
      (pss_cons (ps_set (i := 6) s_best_step.nd rfl (Or.inl rfl) pe_non)
      (pss_cons (ps_for PassesOwn.never rfl (pi_enum rfl T.n_enumerate (pa_cons (pe_fld (pv 0) rfl) pa_nil)) (pg_tup rfl (pgs_cons (pg_name (i := 7) s_best_step.nd rfl (Or.inl rfl)) (pgs_cons (pg_name (i := 8) s_best_step.nd rfl (Or.inl rfl)) pgs_nil)))
      (pss_one (ps_if (PW.pt (pw_and (pt_cmpR op_le (pv 8) (pv 4) (nomark _)) (pw_and1 (pt_cmpR op_notIn_seq (pv 7) (pv 1) (by rfl)))))
      (pss_cons (ps_set (i := 9) s_best_step.nd rfl (Or.inl rfl) (pe_call F_cost_of (hr.mono (by decide)) rfl g_cost_of k_cost_of b_cost_of .nil pass0 (pa_cons (pv 0) (pa_cons (pe_op op_cat (pv 1) (pe_lst (pa_cons (pv 7) pa_nil))) (pa_cons (pv 3) pa_nil)))))
      (pss_one (ps_if (pt_cmpR op_lt (pv 9) (pv 5) (nomark _))
      (pss_cons (ps_set (i := 6) s_best_step.nd rfl (Or.inl rfl) (pv 7))
      (pss_one (ps_set (i := 5) s_best_step.nd rfl (Or.inl rfl) (pv 9))))
      pss_nil)))
      pss_nil)))
      (pss_one (ps_ret (pv 6))))))), ?_⟩
    walk_at "rd"
    have hsz : sizeLine = 16777216 := rfl
    have h16 := gN_le hok
    obtain ⟨dx, aa, sa, qvs, g1, g2, g3, g4⟩ := id hG
    refine ⟨ga, ka, t, k, rfl, hG, hok, SqL.of hk, hgs, fun H1 k1 => ?_⟩
    walk_at "rd"
    refine ⟨ga, ka, t, k, ch, rfl, hG.ex k1, hok, SqL.of (k1 _ _ hk), hgs, fun H2 k2 => ?_⟩
    have k12 := k1.trans k2
    walk_at "rd"
    refine rd_fldAt (k12 _ _ g1) T.k_Groupings T.a_Groupings_sizes rfl ?_
    walk_at "rd"
    refine ⟨sa, _, rfl, SqL.of (k12 _ _ g4), ?_⟩
    refine for_it (walk_enum (xs := intVs (szs t))) (fun i σ H' => ∃ (x y z : Option V), σ = [some (.ref ga), some (.ref ka), some (.int (room : Nat)), some (.int (ch : Nat)), some (.int ((room : Int) - (linesK t k : Nat))), some (.int ((stepF t room ch k i).2 : Nat)), some (optV (stepF t room ch k i).1), x, y, z] ∧ Ex H H')
      ⟨none, none, none, rfl, k12⟩ (fun i σ H' hi h => by
      obtain ⟨x, y, z, _, k⟩ := h
      exact SqL.of (k _ _ g4)) ?_ ?_
    · rintro i v σ H3 H4 hi ⟨x0, y0, z0, rfl, k3⟩ ⟨tt, x1, y1, rfl, ht, rfl, h1, h2⟩
      injection h1 with h1
      subst h1
      rw [intVs_len, szs_len] at hi
      obtain ⟨n, hn, rfl⟩ := intVs_get h2
      rw [szs_get t hi] at hn
      obtain rfl := Option.some.inj hn
      have ht2 : upd H3 tt (.tup [.int i, .int (sz t i : Nat)]) tt = some (.tup [.int i, .int (sz t i : Nat)]) := upd_same
      have k4 := k3.trans (Ex.new (o := .tup [.int i, .int (sz t i : Nat)]) ht)
      generalize upd H3 tt (.tup [.int i, .int (sz t i : Nat)]) = H4 at ht2 k4 ⊢
      have hst : stepF t room ch k (i + 1) = stepOne t room ch k (stepF t room ch k i) i := by
        unfold stepF
        rw [List.range_succ, List.foldl_append]; rfl
      refine rd_tup2 ht2 ?_
      walk_at "rd"
      have skip : ¬ (sz t i + linesK t k ≤ room ∧ i ∉ k ∧ costK t ch (k ++ [i]) < (stepF t room ch k i).2) → stepF t room ch k (i + 1) = stepF t room ch k i := fun h => by rw [hst]; exact if_neg h
      refine rd_ite (fun hr1 => ?_) (fun hr1 => ?_)
      · walk_at "rd"
        refine ⟨ka, _, rfl, Or.inl (SqL.of (k4 _ _ hk)), rfl, intVs_flat k, ?_⟩
        rw [if_pos rfl, inV_ints]
        refine ⟨_, rfl, ?_⟩
        refine rd_iteN (fun hnk => ?_) (fun hik => ?_)
        · walk_at "rd"
          refine ⟨(show 1 ≤ sizeLine by decide), fun p1 hp1 => ?_⟩
          have k5 := k4.trans (Ex.new (o := .lst [.int (i : Nat)]) hp1)
          refine ⟨ka, p1, _, _, rfl, rfl, k5 _ _ hk, upd_same, by rw [intVs_len]; show _ + 1 ≤ _; omega, fun p2 hp2 => ?_⟩
          have k6 := k5.trans (Ex.new (o := .lst (intVs k ++ [.int (i : Nat)])) hp2)
          walk_at "rd"
          refine ⟨ga, p2, t, k ++ [i], ch, rfl, hG.ex k6, hok, SqL.of (by rw [upd_same, intVs_app]; rfl), ⟨by rw [List.length_append]; show _ + 1 ≤ _; omega, fun g hg => ?_⟩, fun H5 k7 => ?_⟩
          · rcases List.mem_append.mp hg with hg | hg
            · exact hgs.2 g hg
            · rw [List.mem_singleton.mp hg]; exact hi
          have k8 := k6.trans k7
          walk_at "rd"
          refine rd_ite (fun hlt => ?_) (fun hlt => ?_)
          · have e1 : stepF t room ch k (i + 1) = (some i, costK t ch (k ++ [i])) := by rw [hst]; exact if_pos ⟨by omega, hnk, by omega⟩
            walk_at "rd"
            exact ⟨_, _, _, by rw [e1]; rfl, k8⟩
          · walk_at "rd"
            exact ⟨_, _, _, by rw [skip fun h => hlt (by have := h.2.2; omega)]; rfl, k8⟩
        · walk_at "rd"
          exact ⟨_, _, _, by rw [skip fun h => h.2.1 hik]; rfl, k4⟩
      · walk_at "rd"
        exact ⟨_, _, _, by rw [skip fun h => hr1 (by have := h.1; omega)]; rfl, k4⟩
    · rintro σ H3 ⟨x0, y0, z0, rfl, k3⟩
      rw [intVs_len, szs_len]
      walk_at "rd"
      exact q H3 k3
/-- so many steps at most -/
def stepsL (t : Table) (room ch : Nat) : Nat → List Nat → List Nat
  | 0, k => k
  | n + 1, k => match (stepF t room ch k (gN t)).1 with
    | none => k
    | some g => stepsL t room ch n (k ++ [g])
theorem stepF_some {t : Table} {room ch : Nat} {k : List Nat} : ∀ (n : Nat) {g : Nat}, (stepF t room ch k n).1 = some g → g < n
  | 0, _, h => by cases h
  | n + 1, g, h => by
    have hst : stepF t room ch k (n + 1) = stepOne t room ch k (stepF t room ch k n) n := by
      unfold stepF
      rw [List.range_succ, List.foldl_append]; rfl
    rw [hst] at h
    unfold stepOne at h
    split at h
    · have := Option.some.inj h
      omega
    · have := stepF_some n h
      omega
def spStepsAtMost (c : Cs) : Sp := fun vs H Q _ => ∃ (ga : Addr) (t : Table) (room ch most : Nat), vs = [.ref ga, .int room, .int ch, .int most] ∧ GrpAt c H ga t ∧ TOk t ∧ most ≤ 16 ∧
  ∀ p H', Ex H H' → H p = none → H' p = some (.lst (intVs (stepsL t room ch most []))) → Q (.ref p) H'
theorem ok_steps_at_most (T : Txt K mg c) : DefOk P w K mg base CX0 6 "steps_at_most" ["groupings", "room", "changes", "most"] (spStepsAtMost c) := by
  obtain ⟨f_best_step, fd_best_step, g_best_step, k_best_step, b_best_step, F_best_step⟩ := ok_best_step (P := P) (w := w) (base := base) T
  refine DefOk.make T.d_steps_at_most s_steps_at_most (fun vs H Q E h => ?_) fun f cdv A outer s H vs Q E hr h => ?_
  · obtain ⟨ga, t, room, ch, most, rfl, hG, hok, hm, q⟩ := h
    rfl
  · obtain ⟨ga, t, room, ch, most, rfl, hG, hok, hm, q⟩ := h
    refine ⟨_, (pss_cons (ps_set (i := 4) s_steps_at_most.nd rfl (Or.inl rfl) (pe_lst pa_nil))
      (pss_cons (ps_while PassesOwn.never (pt_cmpR op_lt (pe_callB call_len_seq (by rfl) T.n_len (by decide +kernel) (pa_cons (pv 4) pa_nil)) (pv 3) (nomark _))
      (pss_cons (ps_set (i := 5) s_steps_at_most.nd rfl (Or.inl rfl) (pe_call F_best_step (hr.mono (by decide)) rfl g_best_step k_best_step b_best_step .nil pass0 (pa_cons (pv 0) (pa_cons (pv 4) (pa_cons (pv 1) (pa_cons (pv 2) pa_nil))))))
      (pss_cons (ps_if (pt_cmp (pc_isN (pv 5)) rfl)
      (pss_one ps_break)
      pss_nil)
      (pss_one (ps_expr (pe_bm PySem.F.plainAttrs_list PySem.F.slot_list_append PySem.F.type_list_append mt_append (pv 4) (pa_cons (pv 5) pa_nil)))))))
      (pss_one (ps_ret (pv 4))))), ?_⟩
    walk_at "rd"
    have hsz : sizeLine = 16777216 := rfl
    refine ⟨Nat.zero_le _, fun L hL => ?_⟩
    walk_at "rd"
    refine ⟨fun μ σ H' => ∃ (k : List Nat) (x : Option V), σ = [some (.ref ga), some (.int (room : Nat)), some (.int (ch : Nat)), some (.int (most : Nat)), some (.ref L), x] ∧ Ex H H' ∧ H' L = some (.lst (intVs k)) ∧ Gs t k ∧ k.length ≤ most ∧ μ = most - k.length ∧ stepsL t room ch most [] = stepsL t room ch (most - k.length) k,
      ⟨_, [], none, rfl, Ex.new hL, upd_same, ⟨Nat.zero_le _, fun g h => absurd h List.not_mem_nil⟩, Nat.zero_le _, rfl, rfl⟩, ?_⟩
    rintro μ σ H1 ⟨k, x0, rfl, k1, hk, hgs, hkm, rfl, heq⟩
    walk_at "rd"
    refine ⟨L, _, rfl, Or.inl (SqL.of hk), ?_⟩
    rw [intVs_len]
    walk_at "rd"
    refine rd_ite (fun hlt => ?_) (fun hge => ?_)
    · have hlt : k.length < most := by omega
      have es : stepsL t room ch (most - k.length) k = match (stepF t room ch k (gN t)).1 with
          | none => k
          | some g => stepsL t room ch (most - k.length - 1) (k ++ [g]) := by
        obtain ⟨n, hn⟩ := Nat.exists_eq_succ_of_ne_zero (show most - k.length ≠ 0 by omega)
        rw [hn]
        rfl
      refine ⟨_, fun _ _ h => h, ?_⟩
      walk_at "rd"
      refine ⟨ga, L, t, k, room, ch, rfl, hG.ex k1, hok, hk, hgs, by omega, fun H2 k2 => ?_⟩
      cases hs : (stepF t room ch k (gN t)).1 with
      | none =>
        rw [hs] at es
        show (_ : Prop)
        walk_at "rd"
        refine rd_yes rfl ?_
        walk_at "rd"
        exact q L H2 (k1.trans k2) hL (by rw [k2 _ _ hk, heq, es])
      | some g =>
        rw [hs] at es
        walk_at "rd"
        refine rd_no (fun z => nomatch z) ?_
        walk_at "rd"
        refine ⟨Or.inl ⟨rfl, _, SqL.of (k2 _ _ hk)⟩, ?_⟩
        walk_at "rd"
        refine ⟨L, _, _, rfl, rfl, k2 _ _ hk, by rw [intVs_len]; omega, ?_⟩
        have hgl := stepF_some _ hs
        refine ⟨most - (k ++ [g]).length, by rw [List.length_append]; show most - (_ + 1) < _; omega, k ++ [g], _, rfl, (k1.trans k2).mut hL, by rw [upd_same, intVs_app]; rfl, ⟨by rw [List.length_append]; show _ + 1 ≤ _; omega, fun g' hg' => ?_⟩, by rw [List.length_append]; exact hlt, rfl, ?_⟩
        · rcases List.mem_append.mp hg' with hg' | hg'
          · exact hgs.2 g' hg'
          · rw [List.mem_singleton.mp hg']; exact hgl
        · rw [heq, es, List.length_append]; rfl
    · walk_at "rd"
      have e0 : most - k.length = 0 := by omega
      rw [e0] at heq
      exact q L H1 k1 hL (by rw [hk, heq]; rfl)
def spStepByStep (c : Cs) : Sp := fun vs H Q _ => ∃ (ga : Addr) (t : Table) (room ch : Nat), vs = [.ref ga, .int room, .int ch] ∧ GrpAt c H ga t ∧ TOk t ∧
  ∀ p H', Ex H H' → H p = none → H' p = some (.lst (intVs (stepsL t room ch (gN t) []))) → Q (.ref p) H'
theorem ok_step_by_step (T : Txt K mg c) : DefOk P w K mg base CX0 7 "step_by_step" ["groupings", "room", "changes"] (spStepByStep c) := by
  obtain ⟨f_steps_at_most, fd_steps_at_most, g_steps_at_most, k_steps_at_most, b_steps_at_most, F_steps_at_most⟩ := ok_steps_at_most (P := P) (w := w) (base := base) T
  refine DefOk.make T.d_step_by_step s_step_by_step (fun vs H Q E h => ?_) fun f cdv A outer s H vs Q E hr h => ?_
  · obtain ⟨ga, t, room, ch, rfl, hG, hok, q⟩ := h
    rfl
  · obtain ⟨ga, t, room, ch, rfl, hG, hok, q⟩ := h
    refine ⟨_, (pss_one (ps_ret (pe_call F_steps_at_most (hr.mono (by decide)) rfl g_steps_at_most k_steps_at_most b_steps_at_most .nil pass0 (pa_cons (pv 0) (pa_cons (pv 1) (pa_cons (pv 2) (pa_cons (pe_callB call_len_seq (by rfl) T.n_len (by decide +kernel) (pa_cons (pe_fld (pv 0) rfl) pa_nil)) pa_nil))))))), ?_⟩
    walk_at "rd"
    obtain ⟨dx, aa, sa, qvs, g1, g2, g3, g4⟩ := id hG
    refine rd_fldAt g1 T.k_Groupings T.a_Groupings_sizes rfl ?_
    walk_at "rd"
    refine ⟨sa, _, rfl, Or.inl (SqL.of g4), ?_⟩
    rw [intVs_len, szs_len]
    exact ⟨ga, t, room, ch, gN t, rfl, hG, hok, gN_le hok, q⟩
def allRoom (t : Table) : Nat := (szs t).sum
def spFewStep (c : Cs) : Sp := fun vs H Q _ => ∃ (ga : Addr) (t : Table) (most : Nat), vs = [.ref ga, .int most] ∧ GrpAt c H ga t ∧ TOk t ∧ most ≤ 16 ∧
  ∀ p H', Ex H H' → H p = none → H' p = some (.lst (intVs (stepsL t (allRoom t) 0 most []))) → Q (.ref p) H'
theorem ok_few_step_by_step (T : Txt K mg c) : DefOk P w K mg base CX0 7 "few_step_by_step" ["groupings", "most"] (spFewStep c) := by
  obtain ⟨f_steps_at_most, fd_steps_at_most, g_steps_at_most, k_steps_at_most, b_steps_at_most, F_steps_at_most⟩ := ok_steps_at_most (P := P) (w := w) (base := base) T
  refine DefOk.make T.d_few_step_by_step s_few_step_by_step (fun vs H Q E h => ?_) fun f cdv A outer s H vs Q E hr h => ?_
  · obtain ⟨ga, t, most, rfl, hG, hok, hm, q⟩ := h
    rfl
  · obtain ⟨ga, t, most, rfl, hG, hok, hm, q⟩ := h
    refine ⟨_, (pss_one (ps_ret (pe_call F_steps_at_most (hr.mono (by decide)) rfl g_steps_at_most k_steps_at_most b_steps_at_most .nil pass0 (pa_cons (pv 0) (pa_cons (pe_callB (cr_sum rfl) (by rfl) T.n_sum (by decide +kernel) (pa_cons (pe_fld (pv 0) rfl) pa_nil)) (pa_cons pe_int (pa_cons (pv 1) pa_nil))))))), ?_⟩
    walk_at "rd"
    obtain ⟨dx, aa, sa, qvs, g1, g2, g3, g4⟩ := id hG
    refine rd_fldAt g1 T.k_Groupings T.a_Groupings_sizes rfl ?_
    walk_at "rd"
    refine ⟨sa, _, rfl, SqL.of (by rw [g4, intVs_ints]), ?_⟩
    rw [sum_nats]
    walk_at "rd"
    exact ⟨ga, t, allRoom t, 0, most, rfl, hG, hok, hm, q⟩
/-! ### who reads -/
def readersL (t : Table) (k : List Nat) (g : Nat) (l : List Nat) : Prop := ∀ F : Nat → Option Nat, (∀ i (h : i < t.asks.length), IsRd t k (t.asks[i]).g (F i)) → l = (List.range t.asks.length).filter fun i => decide (F i = some g)
def spQuestions (K : PySem.W.Frag) (c : Cs) : Sp := fun vs H Q _ => ∃ (ga ka : Addr) (t : Table) (k : List Nat) (g : Nat), vs = [.ref ga, .int g, .ref ka] ∧ GrpAt c H ga t ∧ TOk t ∧ SqL K H ka (intVs k) ∧ Gs t k ∧
  ∀ p H' l, Ex H H' → H p = none → H' p = some (.lst (intVs l)) → l.length ≤ 8 → readersL t k g l → Q (.ref p) H'
theorem rd_one {t : Table} {k : List Nat} {q : Nat} {o o' : Option Nat} (h : IsRd t k q o) (h' : IsRd t k q o') : o = o' := by
  cases o with
  | none =>
    cases o' with
    | none => rfl
    | some v => have := h v h'.1; rw [h'.2.1] at this; cases this
  | some v =>
    cases o' with
    | none => have := h' v h.1; rw [h.2.1] at this; cases this
    | some u =>
      have a := h.2.2 u h'.1 h'.2.1
      have b := h'.2.2 v h.1 h.2.1
      have : v = u := by omega
      rw [this]
theorem ok_questions_that_read (T : Txt K mg c) : DefOk P w K mg base CX0 3 "questions_that_read" ["groupings", "grouping", "kept"] (spQuestions K c) := by
  obtain ⟨f_what_is_read, fd_what_is_read, g_what_is_read, k_what_is_read, b_what_is_read, F_what_is_read⟩ := ok_what_is_read (P := P) (w := w) (base := base) T
  refine DefOk.make T.d_questions_that_read s_questions_that_read (fun vs H Q E h => ?_) fun f cdv A outer s H vs Q E hr h => ?_
  · obtain ⟨ga, ka, t, k, g, rfl, hG, hok, hk, hgs, q⟩ := h
    rfl
  · obtain ⟨ga, ka, t, k, g, rfl, hG, hok, hk, hgs, q⟩ := h
    refine ⟨_, (pss_one (ps_ret (pe_lc (own := [("number", 3), ("asked", 4)]) rfl s_questions_that_read.nd (pi_enum rfl T.n_enumerate (pa_cons (pe_fld (pv 0) rfl) pa_nil)) (blkOk_by (own := [("number", 3), ("asked", 4)]) (N := N_questions_that_read) (sc := defScope (top 24)) (by decide +kernel)) (fun _ _ _ _ _ => (pg_tupK (K := K) (n := 2) (by rfl) (by rfl) (pgs_cons (pg_name (i := 3) s_questions_that_read.nd rfl (Or.inl rfl)) (pgs_cons (pg_name (i := 4) s_questions_that_read.nd rfl (Or.inl rfl)) pgs_nil)))) (fun _ _ _ _ _ => (pts_one (pt_cmpR op_eq (pe_ix (ix_tupK (K := K) (by rfl)) (pe_call F_what_is_read (hr.mono (by decide)) rfl g_what_is_read k_what_is_read b_what_is_read .nil pass0 (pa_cons (pv 0) (pa_cons (pe_ix (ix_tupK (K := K) (by rfl)) (pv 4) pe_int (fun _ _ => rfl)) (pa_cons (pv 2) pa_nil)))) pe_int (fun _ _ => rfl)) (pv 1) (nomark _)))) (fun _ _ _ _ _ => (pv 3))))), ?_⟩
    walk_at "rd"
    have hsz : sizeLine = 16777216 := rfl
    have h8 := hok.q8
    obtain ⟨dx, aa, sa, qvs, g1, g2, g3, g4⟩ := id hG
    have hlq : qvs.length = t.asks.length := g3.len
    refine rd_fldAt g1 T.k_Groupings T.a_Groupings_asked rfl ?_
    walk_at "rd"
    refine ⟨aa, qvs, rfl, SqL.of g2, fun D hD => ?_⟩
    refine lc_it walk_enum (fun i H' => ∃ l : List Nat, LPv H D (fun _ => intVs l) i H' ∧ l.length ≤ i ∧ ∀ F : Nat → Option Nat, (∀ j (h : j < t.asks.length), IsRd t k (t.asks[j]).g (F j)) → l = (List.range i).filter fun j => decide (F j = some g)) ⟨[], LPv.start hD rfl, Nat.le_refl _, fun F _ => rfl⟩ (fun i H' hi h => SqL.of (h.choose_spec.1.1 _ _ g2)) ?_ ?_
    · rintro i x H1 H2 hi ⟨l, hP, hl, hF⟩ ⟨tt, x1, y1, rfl, ht, rfl, h1, h2⟩
      injection h1 with h1
      subst h1
      obtain ⟨x, hx, qa, rfl, hqa⟩ := g3.get h2
      have hil : i < t.asks.length := by omega
      have hxi : t.asks[i] = x := by rw [List.getElem?_eq_getElem hil] at hx; exact Option.some.inj hx
      have k1 := hP.1.trans (Ex.new (o := .tup [.int i, .ref qa]) ht)
      have kk := Ex.new (o := .tup [.int i, .ref qa]) ht
      refine rd_tup2 upd_same ⟨rfl, ?_⟩
      walk_at "rd"
      refine ⟨qa, _, 0, _, rfl, rfl, SqT.mk (kk _ _ (hP.1 _ _ hqa)), rfl, ?_⟩
      walk_at "rd"
      refine ⟨ga, ka, t, x.g, k, rfl, hG.ex k1, hok, seq_ex k1 hk, hgs, fun H3 v o k3 hrd hV => ?_⟩
      obtain ⟨a', rfl, ha'⟩ := hV
      walk_at "rd"
      refine ⟨a', _, 1, _, rfl, rfl, SqT.mk ha', rfl, ?_⟩
      walk_at "rd"
      have k4 : Ex H1 H3 := kk.trans k3
      have hFi : ∀ F : Nat → Option Nat, (∀ j (h : j < t.asks.length), IsRd t k (t.asks[j]).g (F j)) → F i = o := fun F h => by
        have := h i hil
        rw [hxi] at this
        exact rd_one this hrd
      have yes : o = some g → ∃ acc, H3 D = some (.lst acc) ∧ acc.length < sizeLine ∧ ∃ l, LPv H D (fun _ => intVs l) (i + 1) (upd H3 D (.lst (acc ++ [V.int (i : Nat)]))) ∧ l.length ≤ i + 1 ∧ ∀ F : Nat → Option Nat, (∀ j (h : j < t.asks.length), IsRd t k (t.asks[j]).g (F j)) → l = (List.range (i + 1)).filter fun j => decide (F j = some g) := fun e => by
        refine ⟨_, k4 _ _ hP.2, by rw [intVs_len]; omega, l ++ [i], ⟨(hP.1.trans k4).mut hD, by rw [upd_same, intVs_app]; rfl⟩, by rw [List.length_append]; exact Nat.succ_le_succ hl, fun F h => ?_⟩
        rw [List.range_succ, List.filter_append, ← hF F h, List.filter_cons, hFi F h, decide_eq_true e]; rfl
      have no : o ≠ some g → ∃ l, LPv H D (fun _ => intVs l) (i + 1) H3 ∧ l.length ≤ i + 1 ∧ ∀ F : Nat → Option Nat, (∀ j (h : j < t.asks.length), IsRd t k (t.asks[j]).g (F j)) → l = (List.range (i + 1)).filter fun j => decide (F j = some g) := fun e => by
        refine ⟨l, ⟨hP.1.trans k4, k4 _ _ hP.2⟩, Nat.le_succ_of_le hl, fun F h => ?_⟩
        rw [List.range_succ, List.filter_append, ← hF F h, List.filter_cons, hFi F h, decide_eq_false e]
        exact (List.append_nil _).symm
      cases o with
      | none =>
        refine ⟨rfl, ?_⟩
        refine ⟨_, rfl, ?_⟩
        refine rd_no (fun z => nomatch z) ?_
        exact no (fun z => nomatch z)
      | some v =>
        refine ⟨rfl, ?_⟩
        refine ⟨_, rfl, ?_⟩
        refine rd_ite (fun hv => ?_) (fun hv => ?_)
        · walk_at "rd"
          exact yes (by injection hv with hv; exact congrArg some (Int.ofNat.inj hv))
        · exact no fun z => hv (by rw [Option.some.inj z])
    · rintro H1 ⟨l, hP, hl, hF⟩
      rw [hlq] at hl hF
      exact q D H1 l hP.1 hD hP.2 (by omega) hF
end
end Bk
end
section
local macro_rules | `(tactic| walk_at "rd1") => `(tactic| first
  | with_reducible refine Bk.rd_seq ?_
  | ((with_reducible refine' Bk.rd_var ?k1 ?_); (case k1 => exact rfl))
  | with_reducible refine Bk.rd_c ?_
  | with_reducible refine Bk.rd_op ?_
  | with_reducible refine Bk.rd_I0 ?_
  | ((with_reducible refine' Bk.rd_I ?k1 ?_); (case k1 => first | assumption | omega))
  | with_reducible refine Bk.rd_test ?_
  | with_reducible refine Bk.rd_tB ?_
  | with_reducible refine Bk.rd_bl ?_
  | ((with_reducible refine' Bk.rd_eq ?k1 ?_); (case k1 => exact rfl))
  | ((with_reducible refine' Bk.rd_ne ?k1 ?_); (case k1 => exact rfl))
  | with_reducible refine Bk.rd_and ?_
  | with_reducible refine Bk.rd_or ?_
  | with_reducible refine Bk.rd_not ?_
  | with_reducible refine Bk.rd_andV ?_
  | with_reducible refine Bk.rd_isN ?_
  | with_reducible refine Bk.rd_notN ?_
  | with_reducible refine Bk.rd_asg ?_
  | with_reducible refine Bk.rd_nm ?_
  | with_reducible refine Bk.rd_ret ?_
  | with_reducible refine Bk.rd_drop ?_
  | with_reducible refine Bk.rd_if ?_
  | with_reducible refine Bk.rd_ifE ?_
  | ((with_reducible refine' Bk.rd_aug ?k1 ?_); (case k1 => exact rfl))
  | with_reducible refine Bk.rd_ipI ?_
  | with_reducible refine Bk.rd_nil ?_
  | with_reducible refine Bk.rd_cons ?_
  | with_reducible refine Bk.rd_CB ?_
  | with_reducible refine Bk.rd_call ?_
  | with_reducible refine Bk.rd_callS ?_
  | with_reducible refine Bk.rd_un ?_
  | with_reducible refine Bk.rd_U ?_
  | with_reducible refine Bk.rd_fld ?_
  | with_reducible refine Bk.rd_sfld ?_
  | with_reducible refine Bk.rd_tup ?_
  | with_reducible refine Bk.rd_lst ?_
  | with_reducible refine Bk.rd_next ?_
  | with_reducible refine Bk.rd_brk ?_
  | with_reducible refine Bk.rd_BM ?_
  | with_reducible refine Bk.rd_BM0 ?_
  | with_reducible refine Bk.rd_for ?_
  | with_reducible refine Bk.rd_iStr ?_
  | with_reducible refine Bk.rd_fldaug ?_
  | with_reducible refine Bk.rd_mkO ?_
  | with_reducible refine Bk.rd_js ?_
  | with_reducible refine Bk.rd_js0 ?_
  | with_reducible refine Bk.rd_fmt ?_
  | with_reducible refine Bk.rd_erI ?_
  | with_reducible refine Bk.rd_erSet ?_
  | with_reducible refine Bk.rd_lc ?_
  | with_reducible refine Bk.rd_yes' ?_
  | with_reducible refine Bk.rd_iList ?_
  | with_reducible refine Bk.rd_iTup ?_
  | with_reducible refine Bk.rd_iRng1 ?_
  | with_reducible refine Bk.rd_iEnum ?_
  | with_reducible refine Bk.rd_iZip ?_
  | with_reducible refine Bk.rd_iEnumT ?_
  | with_reducible refine Bk.rd_M1 ?_
  | with_reducible refine Bk.rd_dget2 ?_
  | with_reducible refine Bk.rd_dput ?_
  | with_reducible refine Bk.rd_dnotin ?_
  | with_reducible refine Bk.rd_dget ?_
  | with_reducible refine Bk.rd_sl ?_
  | with_reducible refine Bk.rd_noPart ?_
  | with_reducible refine Bk.rd_part ?_
  | with_reducible refine Bk.rd_int ?_
  | with_reducible refine Bk.rd_str ?_
  | with_reducible refine Bk.rd_isstr ?_
  | with_reducible refine Bk.rd_make ?_
  | with_reducible refine Bk.rd_meth ?_
  | with_reducible refine L2.iteT ?_
  | with_reducible refine L2.iteF ?_)
local macro_rules | `(tactic| walk_at "rd") => `(tactic| repeat (walk_at "rd1"))
local macro_rules | `(tactic| walk_at "few") => `(tactic| first | exact (show (0 : Nat) < 1000 by decide) | exact (show (1 : Nat) < 1000 by decide) | exact (show (2 : Nat) < 1000 by decide) | exact (show (3 : Nat) < 1000 by decide) | exact (show (4 : Nat) < 1000 by decide) | exact (show (5 : Nat) < 1000 by decide) | exact (show (6 : Nat) < 1000 by decide) | exact (show (7 : Nat) < 1000 by decide))

/-! the object and its calls: the defs of answersets.py -/
namespace Bk
open PySem hiding Tok
open PySem.Spec hiding Row
open PyProof.Rows L2
open Vamvsa (Table Row Ask columnsOf)
section
variable {P : Program} {w : World} {K : PySem.W.Frag} {mg : Str → Option Value} {base : Heap} {c : Cs}
def keepF (tv gv sv : V) (r ch : Int) : List (Str × V) := [("table", tv), ("groupings", gv), ("sets", sv), ("room", .int r), ("changes", .int ch)]
def KeepAt (c : Cs) (H : Hp) (kp : Addr) : Vamvsb.Obj → Prop
  | none => ∃ dx, H kp = some (.ins c.cKeeper dx (keepF .non .non .non 1000000 0))
  | some z => ∃ dx tb ca ra qa ga sv, H kp = some (.ins c.cKeeper dx (keepF (.ref tb) (.ref ga) sv (z.m.room : Nat) (z.m.changes : Nat))) ∧ TabAt c H tb ca ra qa z.t ∧ TOk z.t ∧ GrpAt c H ga z.t ∧ (sv = .non ∨ ∃ sa, sv = .ref sa ∧ SetsAt c H sa z.t) ∧ z.m.room ≤ 1000000 ∧ z.m.changes ≤ 1000
theorem keep_not {H : Hp} {kp dx : Addr} {tv gv sv : V} {r ch : Int} (h : H kp = some (.ins c.cKeeper dx (keepF tv gv sv r ch))) : (∀ x ∈ [kp], (∀ dx n aa sa, H x ≠ some (.ins c.cGroupings dx (grpF n aa sa))) ∧ (∀ xs, H x ≠ some (.lst xs)) ∧ ∀ xs, H x ≠ some (.tup xs)) ∧
    (∀ x ∈ [kp], (∀ dx ra la ka, H x ≠ some (.ins c.cAllSets dx (setsF ra la ka))) ∧ ∀ xs, H x ≠ some (.lst xs)) ∧ ∀ x ∈ [kp], ∀ C dx ca ra qa, H x ≠ some (.ins C dx (tabF ca ra qa)) := by
  refine ⟨fun x hx => ?_, fun x hx => ?_, fun x hx C dx' ca ra qa z => ?_⟩
  · rw [List.mem_singleton.mp hx, h]
    refine ⟨fun dx n aa sa z => ?_, (fun xs z => nomatch z), (fun xs z => nomatch z)⟩
    injection z with z
    injection z with _ _ z
    cases z
  · rw [List.mem_singleton.mp hx, h]
    refine ⟨fun dx n aa sa z => ?_, (fun xs z => nomatch z)⟩
    injection z with z
    injection z with _ _ z
    cases z
  · rw [List.mem_singleton.mp hx, h] at z
    injection z with z
    injection z with _ _ z
    cases z
theorem TabAt.butK {H H' : Hp} {kp dx : Addr} {tv gv sv : V} {r ch : Int} {tb ca ra qa : Addr} {t : Table} (h : TabAt c H tb ca ra qa t) (o : H kp = some (.ins c.cKeeper dx (keepF tv gv sv r ch))) (k : But [kp] H H') : TabAt c H' tb ca ra qa t := by
  obtain ⟨n1, n2, n3⟩ := keep_not o
  obtain ⟨⟨dt, ho⟩, hc, ⟨rvs, hr, _⟩, ⟨qvs, hq, _⟩, _⟩ := id h
  refine h.stay k (fun x hx => (n1 x hx).2.2) (fun z => n3 _ z _ _ _ _ _ ho) (fun z => (n1 _ z).2.1 _ hc) (fun z => (n1 _ z).2.1 _ hr) (fun z => (n1 _ z).2.1 _ hq)
theorem GrpAt.butK {H H' : Hp} {kp dx : Addr} {tv gv sv : V} {r ch : Int} {ga : Addr} {t : Table} (h : GrpAt c H ga t) (o : H kp = some (.ins c.cKeeper dx (keepF tv gv sv r ch))) (k : But [kp] H H') : GrpAt c H' ga t := h.stay k (keep_not o).1
theorem SetsAt.butK {H H' : Hp} {kp dx : Addr} {tv gv sv : V} {r ch : Int} {sa : Addr} {t : Table} (h : SetsAt c H sa t) (o : H kp = some (.ins c.cKeeper dx (keepF tv gv sv r ch))) (k : But [kp] H H') : SetsAt c H' sa t := h.stay k (keep_not o).2.1
theorem TabAt.ex {H H' : Hp} {tb ca ra qa : Addr} {t : Table} (h : TabAt c H tb ca ra qa t) (k : Ex H H') : TabAt c H' tb ca ra qa t := h.stay (S := []) (fun b o _ e => k b o e) (by simp) (by simp) (by simp) (by simp) (by simp)
theorem KeepAt.ex {H H' : Hp} {kp : Addr} {o : Vamvsb.Obj} (h : KeepAt c H kp o) (k : Ex H H') : KeepAt c H' kp o := by
  cases o with
  | none =>
    obtain ⟨dx, h⟩ := h
    exact ⟨dx, k _ _ h⟩
  | some z =>
    obtain ⟨dx, tb, ca, ra, qa, ga, sv, h1, h2, h3, h4, h5, h6⟩ := h
    refine ⟨dx, tb, ca, ra, qa, ga, sv, k _ _ h1, h2.ex k, h3, h4.ex k, ?_, h6⟩
    rcases h5 with h5 | ⟨sa, h5, h7⟩
    · exact .inl h5
    · exact .inr ⟨sa, h5, h7.ex k⟩
abbrev intV (l : List Int) : List V := l.map V.int
def spKeeperInit (c : Cs) : Sp := fun vs H Q _ => ∃ p dx : Addr, vs = [.ref p] ∧ H p = some (.ins c.cKeeper dx []) ∧ Q .non (upd H p (.ins c.cKeeper dx (keepF .non .non .non 1000000 0)))
theorem ok_Keeper_init (T : Txt K mg c) : InitOk P w K mg base CX0 1 c.cKeeper ["self"] (spKeeperInit c) := by
  refine InitOk.make T.i_Keeper s_Keeper_init (fun vs H Q E h => ?_) fun f cdv A outer s H vs Q E hr h => ?_
  · obtain ⟨p, dx, rfl, hp, q⟩ := h
    rfl
  · obtain ⟨p, dx, rfl, hp, q⟩ := h
    refine ⟨_, (pss_cons (ps_fld (pv 0) pe_non rfl)
      (pss_cons (ps_fld (pv 0) pe_non rfl)
      (pss_cons (ps_fld (pv 0) pe_non rfl)
      (pss_cons (ps_fld (pv 0) (pe_glob rfl T.c_FIRST_ROOM.choose_spec.1 T.c_FIRST_ROOM.choose_spec.2) rfl)
      (pss_one (ps_fld (pv 0) (pe_glob rfl T.c_FIRST_CHANGES.choose_spec.1 T.c_FIRST_CHANGES.choose_spec.2) rfl)))))), ?_⟩
    walk_at "rd"
    refine rd_sfldAt hp T.k_Keeper T.a_Keeper_table (by walk_at "few") ?_
    walk_at "rd"
    refine rd_sfldAt upd_same T.k_Keeper T.a_Keeper_groupings (by walk_at "few") ?_
    walk_at "rd"
    refine rd_sfldAt upd_same T.k_Keeper T.a_Keeper_sets (by walk_at "few") ?_
    walk_at "rd"
    refine rd_sfldAt upd_same T.k_Keeper T.a_Keeper_room (by walk_at "few") ?_
    walk_at "rd"
    refine rd_sfldAt upd_same T.k_Keeper T.a_Keeper_changes (by walk_at "few") ?_
    rw [upd_upd, upd_upd, upd_upd, upd_upd]
    exact q
/-! numbers told -/
def spIsGrouping (c : Cs) : Sp := fun vs H Q _ => ∃ (kp : Addr) (z : Vamvsb.Held) (n : Int), vs = [.ref kp, .int n] ∧ KeepAt c H kp (some z) ∧ Q (.bl (decide (0 ≤ n ∧ n < (gN z.t : Nat)))) H
theorem ok_Keeper_is_grouping (T : Txt K mg c) : MethOk P w K mg base CX0 1 c.cKeeper "is_grouping" ["self", "number"] (spIsGrouping c) := by
  refine MethOk.make T.m_Keeper_is_grouping s_Keeper_is_grouping (fun vs H Q E h => ?_) fun f cdv A outer s H vs Q E hr h => ?_
  · obtain ⟨kp, z, n, rfl, hK, q⟩ := h
    rfl
  · obtain ⟨kp, z, n, rfl, hK, q⟩ := h
    refine ⟨_, (pss_one (ps_ret (pe_and (pe_cmpR op_ge (pv 1) pe_int (nomark _)) (pe_one (pe_cmpR op_lt (pv 1) (pe_callB call_len_seq (by rfl) T.n_len (by decide +kernel) (pa_cons (pe_fld (pe_fld (pv 0) rfl) rfl) pa_nil)) (nomark _)))))), ?_⟩
    walk_at "rd"
    obtain ⟨dx, tb, ca, ra, qa, ga, sv, h1, h2, h3, h4, h5, h6⟩ := hK
    obtain ⟨dg, aa, sa, qvs, g1, g2, g3, g4⟩ := id h4
    refine rd_ite (fun hn => ?_) (fun hn => ?_)
    · walk_at "rd"
      refine rd_fldAt h1 T.k_Keeper T.a_Keeper_groupings rfl ?_
      refine rd_fldAt g1 T.k_Groupings T.a_Groupings_sizes rfl ?_
      walk_at "rd"
      refine ⟨sa, _, rfl, Or.inl (SqL.of g4), ?_⟩
      rw [intVs_len, szs_len]
      have e : decide (0 ≤ n ∧ n < (gN z.t : Nat)) = decide (n < (gN z.t : Nat)) := by
        by_cases h : n < (gN z.t : Nat)
        · rw [decide_eq_true h, decide_eq_true ⟨hn, h⟩]
        · rw [decide_eq_false h, decide_eq_false fun h' => h h'.2]
      rw [e] at q
      walk_at "rd"
      exact q
    · have e : decide (0 ≤ n ∧ n < (gN z.t : Nat)) = false := decide_eq_false fun h => hn h.1
      rw [e] at q
      exact q
def spHasRoom (c : Cs) : Sp := fun vs H Q _ => ∃ (kp : Addr) (z : Vamvsb.Held) (n : Nat), vs = [.ref kp, .int n] ∧ KeepAt c H kp (some z) ∧ Q (.int (if n ≤ z.m.room then 1 else 0)) H
theorem ok_Keeper_has_room (T : Txt K mg c) : MethOk P w K mg base CX0 1 c.cKeeper "has_room" ["self", "lines"] (spHasRoom c) := by
  refine MethOk.make T.m_Keeper_has_room s_Keeper_has_room (fun vs H Q E h => ?_) fun f cdv A outer s H vs Q E hr h => ?_
  · obtain ⟨kp, z, n, rfl, hK, q⟩ := h
    rfl
  · obtain ⟨kp, z, n, rfl, hK, q⟩ := h
    refine ⟨_, (pss_one (ps_ret (pe_ifExp (pt_cmpR op_le (pv 1) (pe_fld (pv 0) rfl) (nomark _)) pe_int pe_int))), ?_⟩
    walk_at "rd"
    obtain ⟨dx, tb, ca, ra, qa, ga, sv, h1, h2, h3, h4, h5, h6⟩ := hK
    refine rd_fldAt h1 T.k_Keeper T.a_Keeper_room rfl ?_
    walk_at "rd"
    refine rd_ite (fun hn => ?_) (fun hn => ?_)
    · rw [if_pos (by omega)] at q
      exact q
    · rw [if_neg (by omega)] at q
      exact q
def spCostBeyond (K : PySem.W.Frag) (c : Cs) : Sp := fun vs H Q _ => ∃ (kp ka oa : Addr) (z : Vamvsb.Held) (k o : List Nat), vs = [.ref kp, .ref ka, .ref oa] ∧ KeepAt c H kp (some z) ∧ SqL K H ka (intVs k) ∧ Gs z.t k ∧ SqL K H oa (intVs o) ∧ Gs z.t o ∧
  ∀ H', Ex H H' → Q (.int ((costK z.t z.m.changes o : Nat) - (costK z.t z.m.changes k : Nat))) H'
theorem ok_Keeper_cost_beyond (T : Txt K mg c) : MethOk P w K mg base CX0 5 c.cKeeper "cost_beyond" ["self", "kept", "others"] (spCostBeyond K c) := by
  obtain ⟨f_cost_of, fd_cost_of, g_cost_of, k_cost_of, b_cost_of, F_cost_of⟩ := ok_cost_of (P := P) (w := w) (base := base) T
  refine MethOk.make T.m_Keeper_cost_beyond s_Keeper_cost_beyond (fun vs H Q E h => ?_) fun f cdv A outer s H vs Q E hr h => ?_
  · obtain ⟨kp, ka, oa, z, k, o, rfl, hK, hk, hgk, ho, hgo, q⟩ := h
    rfl
  · obtain ⟨kp, ka, oa, z, k, o, rfl, hK, hk, hgk, ho, hgo, q⟩ := h
    refine ⟨_, (pss_one (ps_ret (pe_op op_sub (pe_call F_cost_of (hr.mono (by decide)) rfl g_cost_of k_cost_of b_cost_of .nil pass0 (pa_cons (pe_fld (pv 0) rfl) (pa_cons (pv 2) (pa_cons (pe_fld (pv 0) rfl) pa_nil)))) (pe_call F_cost_of (hr.mono (by decide)) rfl g_cost_of k_cost_of b_cost_of .nil pass0 (pa_cons (pe_fld (pv 0) rfl) (pa_cons (pv 1) (pa_cons (pe_fld (pv 0) rfl) pa_nil))))))), ?_⟩
    walk_at "rd"
    obtain ⟨dx, tb, ca, ra, qa, ga, sv, h1, h2, h3, h4, h5, h6⟩ := hK
    refine rd_fldAt h1 T.k_Keeper T.a_Keeper_groupings rfl ?_
    walk_at "rd"
    refine rd_fldAt h1 T.k_Keeper T.a_Keeper_changes rfl ?_
    walk_at "rd"
    refine ⟨ga, oa, z.t, o, z.m.changes, rfl, h4, h3, ho, hgo, fun H1 k1 => ?_⟩
    walk_at "rd"
    refine rd_fldAt (k1 _ _ h1) T.k_Keeper T.a_Keeper_groupings rfl ?_
    walk_at "rd"
    refine rd_fldAt (k1 _ _ h1) T.k_Keeper T.a_Keeper_changes rfl ?_
    walk_at "rd"
    refine ⟨ga, ka, z.t, k, z.m.changes, rfl, h4.ex k1, h3, seq_ex k1 hk, hgk, fun H2 k2 => ?_⟩
    walk_at "rd"
    exact q H2 (k1.trans k2)
def intsN (l : List Nat) : List Int := l.map fun (n : Nat) => (n : Int)
theorem intV_ints (l : List Nat) : intVs l = intV (intsN l) := intVs_ints l
def tellSet (t : Table) (ch : Nat) (k : List Nat) : List Int := intsN [costK t ch k, linesK t k, k.length] ++ intsN k
def tellFew (t : Table) (k : List Nat) : List Int := intsN [readK t k, k.length] ++ intsN k
def spToldSet (c : Cs) : Sp := fun vs H Q _ => ∃ (kp ka : Addr) (z : Vamvsb.Held) (k : List Nat), vs = [.ref kp, .ref ka] ∧ KeepAt c H kp (some z) ∧ H ka = some (.lst (intVs k)) ∧ Gs z.t k ∧
  ∀ p H', Ex H H' → H p = none → H' p = some (.lst (intV (tellSet z.t z.m.changes k))) → Q (.ref p) H'
theorem ok_Keeper_told_set (T : Txt K mg c) : MethOk P w K mg base CX0 5 c.cKeeper "told_set" ["self", "kept"] (spToldSet c) := by
  obtain ⟨f_cost_of, fd_cost_of, g_cost_of, k_cost_of, b_cost_of, F_cost_of⟩ := ok_cost_of (P := P) (w := w) (base := base) T
  obtain ⟨f_lines_of, fd_lines_of, g_lines_of, k_lines_of, b_lines_of, F_lines_of⟩ := ok_lines_of (P := P) (w := w) (base := base) T
  refine MethOk.make T.m_Keeper_told_set s_Keeper_told_set (fun vs H Q E h => ?_) fun f cdv A outer s H vs Q E hr h => ?_
  · obtain ⟨kp, ka, z, k, rfl, hK, hk, hgk, q⟩ := h
    rfl
  · obtain ⟨kp, ka, z, k, rfl, hK, hk, hgk, q⟩ := h
    refine ⟨_, (pss_cons (ps_set (i := 2) s_Keeper_told_set.nd rfl (Or.inl rfl) (pe_call F_cost_of (hr.mono (by decide)) rfl g_cost_of k_cost_of b_cost_of .nil pass0 (pa_cons (pe_fld (pv 0) rfl) (pa_cons (pv 1) (pa_cons (pe_fld (pv 0) rfl) pa_nil)))))
      (pss_one (ps_ret (pe_op op_cat (pe_lst (pa_cons (pv 2) (pa_cons (pe_call F_lines_of (hr.mono (by decide)) rfl g_lines_of k_lines_of b_lines_of .nil pass0 (pa_cons (pe_fld (pv 0) rfl) (pa_cons (pv 1) pa_nil))) (pa_cons (pe_callB call_len_seq (by rfl) T.n_len (by decide +kernel) (pa_cons (pv 1) pa_nil)) pa_nil)))) (pv 1))))), ?_⟩
    walk_at "rd"
    have hsz : sizeLine = 16777216 := rfl
    have hk100 := hgk.1
    obtain ⟨dx, tb, ca, ra, qa, ga, sv, h1, h2, h3, h4, h5, h6⟩ := hK
    refine rd_fldAt h1 T.k_Keeper T.a_Keeper_groupings rfl ?_
    walk_at "rd"
    refine rd_fldAt h1 T.k_Keeper T.a_Keeper_changes rfl ?_
    walk_at "rd"
    refine ⟨ga, ka, z.t, k, z.m.changes, rfl, h4, h3, SqL.of hk, hgk, fun H1 k1 => ?_⟩
    walk_at "rd"
    refine rd_fldAt (k1 _ _ h1) T.k_Keeper T.a_Keeper_groupings rfl ?_
    walk_at "rd"
    refine ⟨ga, ka, z.t, k, rfl, h4.ex k1, h3, SqL.of (k1 _ _ hk), hgk, fun H2 k2 => ?_⟩
    have k12 := k1.trans k2
    walk_at "rd"
    refine ⟨ka, _, rfl, Or.inl (SqL.of (k12 _ _ hk)), ?_⟩
    rw [intVs_len]
    walk_at "rd"
    refine ⟨(show 3 ≤ sizeLine by decide), fun p1 hp1 => ?_⟩
    walk_at "rd"
    have k3 := k12.trans (Ex.new (o := .lst [.int (costK z.t z.m.changes k : Nat), .int (linesK z.t k : Nat), .int (k.length : Nat)]) hp1)
    refine ⟨p1, ka, _, _, rfl, rfl, upd_same, k3 _ _ hk, by rw [intVs_len]; show 3 + _ ≤ _; omega, fun p hp => ?_⟩
    refine q p _ (k3.trans (Ex.new hp)) (Ex.none k3 hp) ?_
    rw [upd_same, intV_ints]
    unfold tellSet intV
    rw [List.map_append]; rfl
def spToldFew (c : Cs) : Sp := fun vs H Q _ => ∃ (kp ka : Addr) (z : Vamvsb.Held) (k : List Nat), vs = [.ref kp, .ref ka] ∧ KeepAt c H kp (some z) ∧ H ka = some (.lst (intVs k)) ∧ Gs z.t k ∧
  ∀ p H', Ex H H' → H p = none → H' p = some (.lst (intV (tellFew z.t k))) → Q (.ref p) H'
theorem ok_Keeper_told_few (T : Txt K mg c) : MethOk P w K mg base CX0 4 c.cKeeper "told_few" ["self", "kept"] (spToldFew c) := by
  obtain ⟨f_reading_of, fd_reading_of, g_reading_of, k_reading_of, b_reading_of, F_reading_of⟩ := ok_reading_of (P := P) (w := w) (base := base) T
  refine MethOk.make T.m_Keeper_told_few s_Keeper_told_few (fun vs H Q E h => ?_) fun f cdv A outer s H vs Q E hr h => ?_
  · obtain ⟨kp, ka, z, k, rfl, hK, hk, hgk, q⟩ := h
    rfl
  · obtain ⟨kp, ka, z, k, rfl, hK, hk, hgk, q⟩ := h
    refine ⟨_, (pss_one (ps_ret (pe_op op_cat (pe_lst (pa_cons (pe_call F_reading_of (hr.mono (by decide)) rfl g_reading_of k_reading_of b_reading_of .nil pass0 (pa_cons (pe_fld (pv 0) rfl) (pa_cons (pv 1) pa_nil))) (pa_cons (pe_callB call_len_seq (by rfl) T.n_len (by decide +kernel) (pa_cons (pv 1) pa_nil)) pa_nil))) (pv 1)))), ?_⟩
    walk_at "rd"
    have hsz : sizeLine = 16777216 := rfl
    have hk100 := hgk.1
    obtain ⟨dx, tb, ca, ra, qa, ga, sv, h1, h2, h3, h4, h5, h6⟩ := hK
    refine rd_fldAt h1 T.k_Keeper T.a_Keeper_groupings rfl ?_
    walk_at "rd"
    refine ⟨ga, ka, z.t, k, rfl, h4, h3, SqL.of hk, hgk, fun H1 k1 => ?_⟩
    walk_at "rd"
    refine ⟨ka, _, rfl, Or.inl (SqL.of (k1 _ _ hk)), ?_⟩
    rw [intVs_len]
    walk_at "rd"
    refine ⟨(show 2 ≤ sizeLine by decide), fun p1 hp1 => ?_⟩
    walk_at "rd"
    have k3 := k1.trans (Ex.new (o := .lst [.int (readK z.t k : Nat), .int (k.length : Nat)]) hp1)
    refine ⟨p1, ka, _, _, rfl, rfl, upd_same, k3 _ _ hk, by rw [intVs_len]; show 2 + _ ≤ _; omega, fun p hp => ?_⟩
    refine q p _ (k3.trans (Ex.new hp)) (Ex.none k3 hp) ?_
    rw [upd_same, intV_ints]
    unfold tellFew intV
    rw [List.map_append]; rfl
/-! all sets, once a table -/
def spEverySet (c : Cs) : Sp := fun vs H Q _ => ∃ (kp : Addr) (z : Vamvsb.Held), vs = [.ref kp] ∧ KeepAt c H kp (some z) ∧ ∀ sa H', But [kp] H H' → KeepAt c H' kp (some z) → SetsAt c H' sa z.t → Q (.ref sa) H'
theorem ok_Keeper_every_set (T : Txt K mg c) : MethOk P w K mg base CX0 6 c.cKeeper "every_set" ["self"] (spEverySet c) := by
  obtain ⟨f_AllSets_init, fd_AllSets_init, m_AllSets_init, b_AllSets_init, F_AllSets_init⟩ := ok_AllSets_init (P := P) (w := w) (base := base) T
  refine MethOk.make T.m_Keeper_every_set s_Keeper_every_set (fun vs H Q E h => ?_) fun f cdv A outer s H vs Q E hr h => ?_
  · obtain ⟨kp, z, rfl, hK, q⟩ := h
    rfl
  · obtain ⟨kp, z, rfl, hK, q⟩ := h
    refine ⟨_, (pss_cons (ps_if (pt_cmp (pc_isN (pe_fld (pv 0) rfl)) rfl)
      (pss_one (ps_fld (pv 0) (pe_make m_AllSets_init F_AllSets_init (hr.mono (by decide)) rfl T.g_AllSets b_AllSets_init .nil pass0 (pa_cons (pe_fld (pv 0) rfl) pa_nil)) rfl))
      pss_nil)
      (pss_one (ps_ret (pe_fld (pv 0) rfl)))), ?_⟩
    walk_at "rd"
    obtain ⟨dx, tb, ca, ra, qa, ga, sv, h1, h2, h3, h4, h5, h6⟩ := id hK
    refine rd_fldAt h1 T.k_Keeper T.a_Keeper_sets rfl ?_
    walk_at "rd"
    rcases h5 with rfl | ⟨sa, rfl, h5⟩
    · refine rd_yes rfl ?_
      walk_at "rd"
      refine rd_fldAt h1 T.k_Keeper T.a_Keeper_groupings rfl ?_
      walk_at "rd"
      intro x dxx hx hdx hne
      have k1 : Ex H (upd (upd H dxx (.own x)) x (.ins c.cAllSets dxx [])) := Ex.obj hx hdx
      refine ⟨x, dxx, ga, z.t, rfl, upd_same, h4.ex k1, h3, fun H1 b1 hS => ⟨rfl, ?_⟩⟩
      walk_at "rd"
      have k2 : Ex H H1 := fun b o e => b1 b o (by simpa using ne_of_none e hx) (k1 b o e)
      refine rd_sfldAt (k2 _ _ h1) T.k_Keeper T.a_Keeper_sets (by walk_at "few") ?_
      walk_at "rd"
      have b2 : But [kp] H1 (upd H1 kp (.ins c.cKeeper dx (putF "sets" (.ref x) (keepF (.ref tb) (.ref ga) .non (z.m.room : Nat) (z.m.changes : Nat))))) := fun b o hb e => by rw [upd_ne (by simpa using hb)]; exact e
      have e1 : upd H1 kp (.ins c.cKeeper dx (putF "sets" (.ref x) (keepF (.ref tb) (.ref ga) .non (z.m.room : Nat) (z.m.changes : Nat)))) kp = some (.ins c.cKeeper dx (keepF (.ref tb) (.ref ga) (.ref x) (z.m.room : Nat) (z.m.changes : Nat))) := upd_same
      have hS2 := hS.butK (k2 _ _ h1) b2
      have h2' := (h2.ex k2).butK (k2 _ _ h1) b2
      have h4' := (h4.ex k2).butK (k2 _ _ h1) b2
      generalize upd H1 kp (.ins c.cKeeper dx (putF "sets" (.ref x) (keepF (.ref tb) (.ref ga) .non (z.m.room : Nat) (z.m.changes : Nat)))) = H2 at b2 e1 hS2 h2' h4' ⊢
      refine rd_fldAt e1 T.k_Keeper T.a_Keeper_sets rfl ?_
      exact q x H2 (fun b o hb e => b2 b o hb (k2 b o e)) ⟨dx, tb, ca, ra, qa, ga, .ref x, e1, h2', h3, h4', .inr ⟨x, rfl, hS2⟩, h6⟩ hS2
    · refine rd_no (fun y => nomatch y) ?_
      walk_at "rd"
      refine rd_fldAt h1 T.k_Keeper T.a_Keeper_sets rfl ?_
      exact q sa H (But.refl H) hK h5
def bestC (z : Vamvsb.Held) : Nat := (leastF z.t z.m.changes (roomFor z.t z.m.room)).1
def bestL (z : Vamvsb.Held) : List Nat := bitsTo (bestC z) (gN z.t)
theorem bits_gs (n : Nat) {t : Table} (hok : TOk t) : Gs t (bitsTo n (gN t)) := ⟨by have := bitsTo_len n (gN t); have := gN_le hok; omega, fun g hg => List.mem_range.mp (List.mem_filter.mp hg).1⟩
def spBestKept (c : Cs) : Sp := fun vs H Q _ => ∃ (kp : Addr) (z : Vamvsb.Held), vs = [.ref kp] ∧ KeepAt c H kp (some z) ∧ ∀ p H', But [kp] H H' → H p = none → p ≠ kp → H' p = some (.lst (intVs (bestL z))) → KeepAt c H' kp (some z) → Q (.ref p) H'
theorem ok_Keeper_best_kept (T : Txt K mg c) : MethOk P w K mg base CX0 7 c.cKeeper "best_kept" ["self"] (spBestKept c) := by
  obtain ⟨f_best_set, fd_best_set, g_best_set, k_best_set, b_best_set, F_best_set⟩ := ok_best_set (P := P) (w := w) (base := base) T
  obtain ⟨f_Keeper_every_set, fd_Keeper_every_set, m_Keeper_every_set, b_Keeper_every_set, F_Keeper_every_set⟩ := ok_Keeper_every_set (P := P) (w := w) (base := base) T
  refine MethOk.make T.m_Keeper_best_kept s_Keeper_best_kept (fun vs H Q E h => ?_) fun f cdv A outer s H vs Q E hr h => ?_
  · obtain ⟨kp, z, rfl, hK, q⟩ := h
    rfl
  · obtain ⟨kp, z, rfl, hK, q⟩ := h
    refine ⟨_, (pss_one (ps_ret (pe_call F_best_set (hr.mono (by decide)) rfl g_best_set k_best_set b_best_set .nil pass0 (pa_cons (pe_meth0 (pv 0) T.k_Keeper m_Keeper_every_set F_Keeper_every_set (hr.mono (by decide)) b_Keeper_every_set .nil pass0) (pa_cons (pe_fld (pv 0) rfl) (pa_cons (pe_fld (pv 0) rfl) pa_nil)))))), ?_⟩
    walk_at "rd"
    obtain ⟨dx0, _, _, _, _, _, _, h10, _⟩ := id hK
    refine ⟨kp, dx0, _, rfl, h10, rfl, ?_⟩
    refine ⟨kp, z, rfl, hK, fun sa H1 b1 hK1 hS => ?_⟩
    obtain ⟨dx, tb, ca, ra, qa, ga, sv, h1, h2, h3, h4, h5, h6⟩ := id hK1
    walk_at "rd"
    refine rd_fldAt h1 T.k_Keeper T.a_Keeper_room rfl ?_
    walk_at "rd"
    refine rd_fldAt h1 T.k_Keeper T.a_Keeper_changes rfl ?_
    walk_at "rd"
    refine ⟨sa, z.t, z.m.room, z.m.changes, rfl, hS, h3, fun p H2 k2 hp h2' => ?_⟩
    have hpk : p ≠ kp := fun y => by rw [y, h1] at hp; cases hp
    exact q p H2 (fun b o hb e => k2 b o (b1 b o hb e)) (b1.none (by simpa using hpk) hp) hpk h2' (hK1.ex k2)
theorem KeepAt.at_ {H : Hp} {kp : Addr} {o : Vamvsb.Obj} (h : KeepAt c H kp o) : ∃ dx tv gv sv r ch, H kp = some (.ins c.cKeeper dx (keepF tv gv sv r ch)) := by
  cases o with
  | none =>
    obtain ⟨dx, h⟩ := h
    exact ⟨dx, _, _, _, _, _, h⟩
  | some z =>
    obtain ⟨dx, tb, ca, ra, qa, ga, sv, h1, _⟩ := h
    exact ⟨dx, _, _, _, _, _, h1⟩
theorem KeepAt.ne {H : Hp} {kp p : Addr} {o : Vamvsb.Obj} (h : KeepAt c H kp o) (hp : H p = none) : p ≠ kp := fun y => by
  obtain ⟨dx, tv, gv, sv, r, ch, h1⟩ := h.at_
  rw [y, h1] at hp; cases hp
def spBest (c : Cs) : Sp := fun vs H Q _ => ∃ (kp : Addr) (z : Vamvsb.Held), vs = [.ref kp] ∧ KeepAt c H kp (some z) ∧ ∀ p H', But [kp] H H' → H p = none → H' p = some (.lst (intV (tellSet z.t z.m.changes (bestL z)))) → KeepAt c H' kp (some z) → Q (.ref p) H'
theorem KeepAt.tok {H : Hp} {kp : Addr} {z : Vamvsb.Held} (h : KeepAt c H kp (some z)) : TOk z.t := by
  obtain ⟨dx, tb, ca, ra, qa, ga, sv, h1, h2, h3, _⟩ := h
  exact h3
theorem ok_Keeper_best (T : Txt K mg c) : MethOk P w K mg base CX0 8 c.cKeeper "best" ["self"] (spBest c) := by
  obtain ⟨f_Keeper_told_set, fd_Keeper_told_set, m_Keeper_told_set, b_Keeper_told_set, F_Keeper_told_set⟩ := ok_Keeper_told_set (P := P) (w := w) (base := base) T
  obtain ⟨f_Keeper_best_kept, fd_Keeper_best_kept, m_Keeper_best_kept, b_Keeper_best_kept, F_Keeper_best_kept⟩ := ok_Keeper_best_kept (P := P) (w := w) (base := base) T
  refine MethOk.make T.m_Keeper_best s_Keeper_best (fun vs H Q E h => ?_) fun f cdv A outer s H vs Q E hr h => ?_
  · obtain ⟨kp, z, rfl, hK, q⟩ := h
    rfl
  · obtain ⟨kp, z, rfl, hK, q⟩ := h
    refine ⟨_, (pss_one (ps_ret (pe_meth (pv 0) T.k_Keeper m_Keeper_told_set F_Keeper_told_set (hr.mono (by decide)) b_Keeper_told_set .nil pass0 (pa_cons (pe_meth0 (pv 0) T.k_Keeper m_Keeper_best_kept F_Keeper_best_kept (hr.mono (by decide)) b_Keeper_best_kept .nil pass0) pa_nil)))), ?_⟩
    walk_at "rd"
    obtain ⟨dx, tv, gv, sv, r, ch, h1⟩ := hK.at_
    refine ⟨kp, dx, _, rfl, h1, rfl, ?_⟩
    walk_at "rd"
    refine ⟨kp, dx, _, rfl, h1, rfl, ?_⟩
    refine ⟨kp, z, rfl, hK, fun p1 H1 b1 hp1 hpk hl1 hK1 => ?_⟩
    walk_at "rd"
    refine ⟨kp, p1, z, bestL z, rfl, hK1, hl1, bits_gs _ hK.tok, fun p H2 k2 hp hl => ?_⟩
    have hpk := hK1.ne hp
    exact q p H2 (fun b o hb e => k2 b o (b1 b o hb e)) (b1.none (by simpa using hpk) hp) hl (hK1.ex k2)
theorem stepsL_gs (t : Table) (room ch : Nat) : ∀ (n : Nat) (k : List Nat), (∀ g ∈ k, g < gN t) → (∀ g ∈ stepsL t room ch n k, g < gN t) ∧ (stepsL t room ch n k).length ≤ n + k.length
  | 0, k, h => ⟨h, by show k.length ≤ _; omega⟩
  | n + 1, k, h => by
    unfold stepsL
    cases hs : (stepF t room ch k (gN t)).1 with
    | none => exact ⟨h, by show k.length ≤ _; omega⟩
    | some g =>
      obtain ⟨h1, h2⟩ := stepsL_gs t room ch n (k ++ [g]) fun g' hg' => by
        rcases List.mem_append.mp hg' with hg' | hg'
        · exact h g' hg'
        · rw [List.mem_singleton.mp hg']; exact stepF_some _ hs
      refine ⟨h1, ?_⟩
      rw [List.length_append] at h2
      have : [g].length = 1 := rfl
      show (stepsL t room ch n (k ++ [g])).length ≤ n + 1 + k.length
      omega
theorem steps_gs (t : Table) (room ch n : Nat) (h : n ≤ 16) : Gs t (stepsL t room ch n []) := by
  obtain ⟨h1, h2⟩ := stepsL_gs t room ch n [] fun g hg => absurd hg List.not_mem_nil
  rw [List.length_nil] at h2
  exact ⟨by omega, h1⟩
def stepsK (z : Vamvsb.Held) : List Nat := stepsL z.t z.m.room z.m.changes (gN z.t) []
def spSteps (c : Cs) : Sp := fun vs H Q _ => ∃ (kp : Addr) (z : Vamvsb.Held), vs = [.ref kp] ∧ KeepAt c H kp (some z) ∧ ∀ p H', But [kp] H H' → H p = none → H' p = some (.lst (intV (tellSet z.t z.m.changes (stepsK z)))) → KeepAt c H' kp (some z) → Q (.ref p) H'
theorem ok_Keeper_steps (T : Txt K mg c) : MethOk P w K mg base CX0 8 c.cKeeper "steps" ["self"] (spSteps c) := by
  obtain ⟨f_Keeper_told_set, fd_Keeper_told_set, m_Keeper_told_set, b_Keeper_told_set, F_Keeper_told_set⟩ := ok_Keeper_told_set (P := P) (w := w) (base := base) T
  obtain ⟨f_step_by_step, fd_step_by_step, g_step_by_step, k_step_by_step, b_step_by_step, F_step_by_step⟩ := ok_step_by_step (P := P) (w := w) (base := base) T
  refine MethOk.make T.m_Keeper_steps s_Keeper_steps (fun vs H Q E h => ?_) fun f cdv A outer s H vs Q E hr h => ?_
  · obtain ⟨kp, z, rfl, hK, q⟩ := h
    rfl
  · obtain ⟨kp, z, rfl, hK, q⟩ := h
    refine ⟨_, (pss_one (ps_ret (pe_meth (pv 0) T.k_Keeper m_Keeper_told_set F_Keeper_told_set (hr.mono (by decide)) b_Keeper_told_set .nil pass0 (pa_cons (pe_call F_step_by_step (hr.mono (by decide)) rfl g_step_by_step k_step_by_step b_step_by_step .nil pass0 (pa_cons (pe_fld (pv 0) rfl) (pa_cons (pe_fld (pv 0) rfl) (pa_cons (pe_fld (pv 0) rfl) pa_nil)))) pa_nil)))), ?_⟩
    walk_at "rd"
    obtain ⟨dx, tb, ca, ra, qa, ga, sv, h1, h2, h3, h4, h5, h6⟩ := id hK
    refine ⟨kp, dx, _, rfl, h1, rfl, ?_⟩
    walk_at "rd"
    refine rd_fldAt h1 T.k_Keeper T.a_Keeper_groupings rfl ?_
    walk_at "rd"
    refine rd_fldAt h1 T.k_Keeper T.a_Keeper_room rfl ?_
    walk_at "rd"
    refine rd_fldAt h1 T.k_Keeper T.a_Keeper_changes rfl ?_
    walk_at "rd"
    refine ⟨ga, z.t, z.m.room, z.m.changes, rfl, h4, h3, fun p1 H1 k1 hp1 hl1 => ?_⟩
    walk_at "rd"
    refine ⟨kp, p1, z, _, rfl, hK.ex k1, hl1, steps_gs _ _ _ _ (gN_le h3), fun p H2 k2 hp hl => ?_⟩
    have kk := k1.trans k2
    exact q p H2 (fun b o hb e => kk b o e) (Ex.none k1 hp) hl (hK.ex kk)
def fewBest (t : Table) (n : Nat) : List Nat := bitsTo (leastF t 0 (fewOf t n)).1 (gN t)
def fewSteps (t : Table) (n : Nat) : List Nat := stepsL t (allRoom t) 0 n []
def tellFews (z : Vamvsb.Held) (n : Int) : List Int := if n < 0 ∨ 4 < n then [-3] else tellFew z.t (fewBest z.t n.toNat) ++ tellFew z.t (fewSteps z.t n.toNat)
def spFew (c : Cs) : Sp := fun vs H Q _ => ∃ (kp : Addr) (z : Vamvsb.Held) (n : Int), vs = [.ref kp, .int n] ∧ KeepAt c H kp (some z) ∧ ∀ p H', But [kp] H H' → H p = none → H' p = some (.lst (intV (tellFews z n))) → KeepAt c H' kp (some z) → Q (.ref p) H'
theorem tellFew_len (t : Table) (k : List Nat) : (intV (tellFew t k)).length = 2 + k.length := by
  unfold tellFew intV intsN
  rw [List.length_map, List.length_append, List.length_map, List.length_map]; rfl
theorem ok_Keeper_few (T : Txt K mg c) : MethOk P w K mg base CX0 8 c.cKeeper "few" ["self", "most"] (spFew c) := by
  obtain ⟨f_best_few, fd_best_few, g_best_few, k_best_few, b_best_few, F_best_few⟩ := ok_best_few (P := P) (w := w) (base := base) T
  obtain ⟨f_Keeper_every_set, fd_Keeper_every_set, m_Keeper_every_set, b_Keeper_every_set, F_Keeper_every_set⟩ := ok_Keeper_every_set (P := P) (w := w) (base := base) T
  obtain ⟨f_Keeper_told_few, fd_Keeper_told_few, m_Keeper_told_few, b_Keeper_told_few, F_Keeper_told_few⟩ := ok_Keeper_told_few (P := P) (w := w) (base := base) T
  obtain ⟨f_few_step_by_step, fd_few_step_by_step, g_few_step_by_step, k_few_step_by_step, b_few_step_by_step, F_few_step_by_step⟩ := ok_few_step_by_step (P := P) (w := w) (base := base) T
  refine MethOk.make T.m_Keeper_few s_Keeper_few (fun vs H Q E h => ?_) fun f cdv A outer s H vs Q E hr h => ?_
  · obtain ⟨kp, z, n, rfl, hK, q⟩ := h
    rfl
  · obtain ⟨kp, z, n, rfl, hK, q⟩ := h
    refine ⟨_, (pss_cons (ps_if (PW.pt (pw_or (pt_cmpR op_lt (pv 1) pe_int (nomark _)) (pw_or1 (pt_cmpR op_gt (pv 1) (pe_glob rfl T.c_MOST_FEW.choose_spec.1 T.c_MOST_FEW.choose_spec.2) (nomark _)))))
      (pss_one (ps_ret (pe_lst (pa_cons (pe_glob rfl T.c_NO_SUCH_COUNT.choose_spec.1 T.c_NO_SUCH_COUNT.choose_spec.2) pa_nil))))
      pss_nil)
      (pss_cons (ps_set (i := 2) s_Keeper_few.nd rfl (Or.inl rfl) (pe_call F_best_few (hr.mono (by decide)) rfl g_best_few k_best_few b_best_few .nil pass0 (pa_cons (pe_meth0 (pv 0) T.k_Keeper m_Keeper_every_set F_Keeper_every_set (hr.mono (by decide)) b_Keeper_every_set .nil pass0) (pa_cons (pv 1) pa_nil))))
      (pss_one (ps_ret (pe_op op_cat (pe_meth (pv 0) T.k_Keeper m_Keeper_told_few F_Keeper_told_few (hr.mono (by decide)) b_Keeper_told_few .nil pass0 (pa_cons (pv 2) pa_nil)) (pe_meth (pv 0) T.k_Keeper m_Keeper_told_few F_Keeper_told_few (hr.mono (by decide)) b_Keeper_told_few .nil pass0 (pa_cons (pe_call F_few_step_by_step (hr.mono (by decide)) rfl g_few_step_by_step k_few_step_by_step b_few_step_by_step .nil pass0 (pa_cons (pe_fld (pv 0) rfl) (pa_cons (pv 1) pa_nil))) pa_nil))))))), ?_⟩
    walk_at "rd"
    have hsz : sizeLine = 16777216 := rfl
    have bad : (n < 0 ∨ 4 < n) → (show Prop from ∀ p, H p = none → Q (.ref p) (upd H p (.lst [.int (-3)]))) := fun h p hp => by
      refine q p _ (fun b o _ e => (Ex.new hp) b o e) hp ?_ (hK.ex (Ex.new hp))
      rw [upd_same]
      unfold tellFews
      rw [if_pos h]; rfl
    refine rd_ite (fun h0 => ?_) (fun h0 => ?_)
    · walk_at "rd"
      refine ⟨(show 1 ≤ sizeLine by decide), fun p hp => bad (.inl h0) p hp⟩
    walk_at "rd"
    refine rd_ite (fun h4 => ?_) (fun h4 => ?_)
    · walk_at "rd"
      refine ⟨(show 1 ≤ sizeLine by decide), fun p hp => bad (.inr (by omega)) p hp⟩
    obtain ⟨m, rfl⟩ : ∃ m : Nat, n = (m : Int) := ⟨n.toNat, by omega⟩
    have hm : m ≤ 4 := by omega
    obtain ⟨dx, tv, gv, sv, r, ch, h1⟩ := hK.at_
    walk_at "rd"
    refine ⟨kp, dx, _, rfl, h1, rfl, ?_⟩
    refine ⟨kp, z, rfl, hK, fun sa H1 b1 hK1 hS => ?_⟩
    walk_at "rd"
    refine ⟨sa, z.t, m, rfl, hS, hK.tok, fun p1 H2 k2 hp1 hl1 => ?_⟩
    have hK2 := hK1.ex k2
    obtain ⟨dx2, tb, ca, ra, qa, ga, sv2, g1, g2, g3, g4, g5, g6⟩ := id hK2
    walk_at "rd"
    refine ⟨kp, dx2, _, rfl, g1, rfl, ?_⟩
    walk_at "rd"
    refine ⟨kp, p1, z, _, rfl, hK2, hl1, bits_gs _ g3, fun p2 H3 k3 hp2 hl2 => ?_⟩
    walk_at "rd"
    refine ⟨kp, dx2, _, rfl, k3 _ _ g1, rfl, ?_⟩
    walk_at "rd"
    refine rd_fldAt (k3 _ _ g1) T.k_Keeper T.a_Keeper_groupings rfl ?_
    walk_at "rd"
    refine ⟨ga, z.t, m, rfl, g4.ex k3, g3, by omega, fun p3 H4 k4 hp3 hl3 => ?_⟩
    walk_at "rd"
    refine ⟨kp, p3, z, _, rfl, (hK2.ex k3).ex k4, hl3, steps_gs _ _ _ _ (by omega), fun p4 H5 k5 hp4 hl4 => ?_⟩
    walk_at "rd"
    have e1 := (bits_gs (leastF z.t 0 (fewOf z.t m)).1 g3).1
    have e2 := (steps_gs z.t (allRoom z.t) 0 m (by omega)).1
    have kk := ((k2.trans k3).trans k4).trans k5
    refine ⟨p2, p4, _, _, rfl, rfl, k5 _ _ (k4 _ _ hl2), hl4, by rw [tellFew_len, tellFew_len]; omega, fun p hp => ?_⟩
    have hK5 := hK1.ex kk
    have hpk := hK5.ne hp
    have kn := kk.trans (Ex.new (o := .lst (intV (tellFew z.t (bitsTo (leastF z.t 0 (fewOf z.t m)).1 (gN z.t))) ++ intV (tellFew z.t (stepsL z.t (allRoom z.t) 0 m [])))) hp)
    refine q p _ (fun b o hb e => kn b o (b1 b o hb e)) (b1.none (by simpa using hpk) (Ex.none kk hp)) ?_ (hK1.ex kn)
    rw [upd_same]
    unfold tellFews intV
    rw [if_neg (by omega), List.map_append, Int.toNat_natCast]; rfl
def tellTerms (r ch : Int) : List Int := if r < 0 ∨ 1000000 < r then [-3] else if ch < 0 ∨ 1000 < ch then [-4] else [1]
def termsObj (z : Vamvsb.Held) (r ch : Int) : Vamvsb.Held := if r < 0 ∨ 1000000 < r then z else if ch < 0 ∨ 1000 < ch then z else { z with m := ⟨r.toNat, ch.toNat⟩ }
def spTerms (c : Cs) : Sp := fun vs H Q _ => ∃ (kp : Addr) (z : Vamvsb.Held) (r ch : Int), vs = [.ref kp, .int r, .int ch] ∧ KeepAt c H kp (some z) ∧ ∀ p H', But [kp] H H' → H p = none → H' p = some (.lst (intV (tellTerms r ch))) → KeepAt c H' kp (some (termsObj z r ch)) → Q (.ref p) H'
theorem ok_Keeper_set_terms (T : Txt K mg c) : MethOk P w K mg base CX0 1 c.cKeeper "set_terms" ["self", "room", "changes"] (spTerms c) := by
  refine MethOk.make T.m_Keeper_set_terms s_Keeper_set_terms (fun vs H Q E h => ?_) fun f cdv A outer s H vs Q E hr h => ?_
  · obtain ⟨kp, z, r, ch, rfl, hK, q⟩ := h
    rfl
  · obtain ⟨kp, z, r, ch, rfl, hK, q⟩ := h
    refine ⟨_, (pss_cons (ps_if (PW.pt (pw_or (pt_cmpR op_lt (pv 1) pe_int (nomark _)) (pw_or1 (pt_cmpR op_gt (pv 1) (pe_glob rfl T.c_MOST_ROOM.choose_spec.1 T.c_MOST_ROOM.choose_spec.2) (nomark _)))))
      (pss_one (ps_ret (pe_lst (pa_cons (pe_glob rfl T.c_NO_SUCH_ROOM.choose_spec.1 T.c_NO_SUCH_ROOM.choose_spec.2) pa_nil))))
      pss_nil)
      (pss_cons (ps_if (PW.pt (pw_or (pt_cmpR op_lt (pv 2) pe_int (nomark _)) (pw_or1 (pt_cmpR op_gt (pv 2) (pe_glob rfl T.c_MOST_CHANGES.choose_spec.1 T.c_MOST_CHANGES.choose_spec.2) (nomark _)))))
      (pss_one (ps_ret (pe_lst (pa_cons (pe_glob rfl T.c_NO_SUCH_CHANGES.choose_spec.1 T.c_NO_SUCH_CHANGES.choose_spec.2) pa_nil))))
      pss_nil)
      (pss_cons (ps_fld (pv 0) (pv 1) rfl)
      (pss_cons (ps_fld (pv 0) (pv 2) rfl)
      (pss_one (ps_ret (pe_lst (pa_cons pe_int pa_nil)))))))), ?_⟩
    walk_at "rd"
    have bad1 : (r < 0 ∨ 1000000 < r) → ∀ p, H p = none → Q (.ref p) (upd H p (.lst [.int (-3)])) := fun h p hp => by
      refine q p _ (fun b o _ e => (Ex.new hp) b o e) hp ?_ ?_
      · rw [upd_same]
        unfold tellTerms
        rw [if_pos h]; rfl
      · unfold termsObj
        rw [if_pos h]
        exact hK.ex (Ex.new hp)
    refine rd_ite (fun h0 => ?_) (fun h0 => ?_)
    · walk_at "rd"
      refine ⟨(show 1 ≤ sizeLine by decide), fun p hp => bad1 (.inl h0) p hp⟩
    walk_at "rd"
    refine rd_ite (fun h4 => ?_) (fun h4 => ?_)
    · walk_at "rd"
      refine ⟨(show 1 ≤ sizeLine by decide), fun p hp => bad1 (.inr (by omega)) p hp⟩
    have n1 : ¬ (r < 0 ∨ 1000000 < r) := by omega
    have bad2 : (ch < 0 ∨ 1000 < ch) → ∀ p, H p = none → Q (.ref p) (upd H p (.lst [.int (-4)])) := fun h p hp => by
      refine q p _ (fun b o _ e => (Ex.new hp) b o e) hp ?_ ?_
      · rw [upd_same]
        unfold tellTerms
        rw [if_neg n1, if_pos h]; rfl
      · unfold termsObj
        rw [if_neg n1, if_pos h]
        exact hK.ex (Ex.new hp)
    walk_at "rd"
    refine rd_ite (fun h5 => ?_) (fun h5 => ?_)
    · walk_at "rd"
      refine ⟨(show 1 ≤ sizeLine by decide), fun p hp => bad2 (.inl h5) p hp⟩
    walk_at "rd"
    refine rd_ite (fun h6 => ?_) (fun h6 => ?_)
    · walk_at "rd"
      refine ⟨(show 1 ≤ sizeLine by decide), fun p hp => bad2 (.inr (by omega)) p hp⟩
    have n2 : ¬ (ch < 0 ∨ 1000 < ch) := by omega
    obtain ⟨m1, rfl⟩ : ∃ m : Nat, r = (m : Int) := ⟨r.toNat, by omega⟩
    obtain ⟨m2, rfl⟩ : ∃ m : Nat, ch = (m : Int) := ⟨ch.toNat, by omega⟩
    obtain ⟨dx, tb, ca, ra, qa, ga, sv, g1, g2, g3, g4, g5, g6⟩ := id hK
    walk_at "rd"
    refine rd_sfldAt g1 T.k_Keeper T.a_Keeper_room (by walk_at "few") ?_
    walk_at "rd"
    refine rd_sfldAt upd_same T.k_Keeper T.a_Keeper_changes (by walk_at "few") ?_
    walk_at "rd"
    rw [upd_upd]
    have b1 : But [kp] H (upd H kp (.ins c.cKeeper dx (putF "changes" (.int (m2 : Nat)) (putF "room" (.int (m1 : Nat)) (keepF (.ref tb) (.ref ga) sv (z.m.room : Nat) (z.m.changes : Nat)))))) := fun b o hb e => by rw [upd_ne (by simpa using hb)]; exact e
    have e1 : upd H kp (.ins c.cKeeper dx (putF "changes" (.int (m2 : Nat)) (putF "room" (.int (m1 : Nat)) (keepF (.ref tb) (.ref ga) sv (z.m.room : Nat) (z.m.changes : Nat))))) kp = some (.ins c.cKeeper dx (keepF (.ref tb) (.ref ga) sv (m1 : Nat) (m2 : Nat))) := upd_same
    have f2 := g2.butK g1 b1
    have f4 := g4.butK g1 b1
    have f5 : sv = .non ∨ ∃ sa, sv = .ref sa ∧ SetsAt c (upd H kp (.ins c.cKeeper dx (putF "changes" (.int (m2 : Nat)) (putF "room" (.int (m1 : Nat)) (keepF (.ref tb) (.ref ga) sv (z.m.room : Nat) (z.m.changes : Nat)))))) sa z.t := by
      rcases g5 with g5 | ⟨sa, g5, g7⟩
      · exact .inl g5
      · exact .inr ⟨sa, g5, g7.butK g1 b1⟩
    generalize upd H kp (.ins c.cKeeper dx (putF "changes" (.int (m2 : Nat)) (putF "room" (.int (m1 : Nat)) (keepF (.ref tb) (.ref ga) sv (z.m.room : Nat) (z.m.changes : Nat))))) = H1 at b1 e1 f2 f4 f5 ⊢
    refine ⟨(show 1 ≤ sizeLine by decide), fun p hp => ?_⟩
    have kn := Ex.new (o := .lst [.int 1]) hp
    have hz : termsObj z (m1 : Int) (m2 : Int) = { z with m := ⟨m1, m2⟩ } := by
      unfold termsObj
      rw [if_neg n1, if_neg n2, Int.toNat_natCast, Int.toNat_natCast]
    have hK1 : KeepAt c H1 kp (some (termsObj z (m1 : Int) (m2 : Int))) := by
      rw [hz]
      exact ⟨dx, tb, ca, ra, qa, ga, sv, e1, f2, g3, f4, f5, by show m1 ≤ _; omega, by show m2 ≤ _; omega⟩
    have hpk := hK1.ne hp
    refine q p _ (fun b o hb e => kn b o (b1 b o hb e)) (b1.none (by simpa using hpk) hp) ?_ (hK1.ex kn)
    rw [upd_same]
    unfold tellTerms
    rw [if_neg n1, if_neg n2]; rfl
def tellShown (t : Table) : List Int := ((Vamvsa.shown t).length : Int) :: (Vamvsa.shown t).map fun b => (b.toNat : Int)
def spShown (c : Cs) : Sp := fun vs H Q _ => ∃ (kp : Addr) (z : Vamvsb.Held), vs = [.ref kp] ∧ KeepAt c H kp (some z) ∧ ∀ p H', But [kp] H H' → H p = none → H' p = some (.lst (intV (tellShown z.t))) → KeepAt c H' kp (some z) → Q (.ref p) H'
theorem ok_Keeper_shown (T : Txt K mg c) : MethOk P w K mg base CX0 4 c.cKeeper "shown" ["self"] (spShown c) := by
  obtain ⟨f_one_form, fd_one_form, g_one_form, k_one_form, b_one_form, F_one_form⟩ := ok_one_form (P := P) (w := w) (base := base) T
  refine MethOk.make T.m_Keeper_shown s_Keeper_shown (fun vs H Q E h => ?_) fun f cdv A outer s H vs Q E hr h => ?_
  · obtain ⟨kp, z, rfl, hK, q⟩ := h
    rfl
  · obtain ⟨kp, z, rfl, hK, q⟩ := h
    refine ⟨_, (pss_cons (ps_set (i := 1) s_Keeper_shown.nd rfl (Or.inl rfl) (pe_call F_one_form (hr.mono (by decide)) rfl g_one_form k_one_form b_one_form .nil pass0 (pa_cons (pe_fld (pv 0) rfl) pa_nil)))
      (pss_one (ps_ret (pe_op op_cat (pe_lst (pa_cons (pe_callB call_len_seq (by rfl) T.n_len (by decide +kernel) (pa_cons (pv 1) pa_nil)) pa_nil)) (pv 1))))), ?_⟩
    walk_at "rd"
    have hsz : sizeLine = 16777216 := rfl
    obtain ⟨dx, tb, ca, ra, qa, ga, sv, g1, g2, g3, g4, g5, g6⟩ := id hK
    refine rd_fldAt g1 T.k_Keeper T.a_Keeper_table rfl ?_
    walk_at "rd"
    refine ⟨tb, ca, ra, qa, z.t, rfl, g2, g3, fun p1 H1 k1 hp1 hl1 hlen => ?_⟩
    walk_at "rd"
    refine ⟨p1, _, rfl, Or.inl (SqL.of hl1), ?_⟩
    rw [List.length_map]
    walk_at "rd"
    refine ⟨(show 1 ≤ sizeLine by decide), fun p2 hp2 => ?_⟩
    walk_at "rd"
    have k2 := Ex.new (o := .lst [.int ((Vamvsa.shown z.t).length : Nat)]) hp2
    refine ⟨p2, p1, _, _, rfl, rfl, upd_same, k2 _ _ hl1, by rw [List.length_map]; show 1 + _ ≤ _; omega, fun p hp => ?_⟩
    have kk := (k1.trans k2).trans (Ex.new (o := .lst ([.int ((Vamvsa.shown z.t).length : Nat)] ++ (Vamvsa.shown z.t).map bv)) hp)
    refine q p _ (fun b o _ e => kk b o e) (Ex.none (k1.trans k2) hp) ?_ (hK.ex kk)
    rw [upd_same]
    unfold tellShown intV
    rw [List.map_cons, List.map_map]; rfl
end
end Bk
end
section
local macro_rules | `(tactic| walk_at "rd1") => `(tactic| first
  | with_reducible refine Bk.rd_seq ?_
  | ((with_reducible refine' Bk.rd_var ?k1 ?_); (case k1 => exact rfl))
  | with_reducible refine Bk.rd_c ?_
  | with_reducible refine Bk.rd_op ?_
  | with_reducible refine Bk.rd_I0 ?_
  | ((with_reducible refine' Bk.rd_I ?k1 ?_); (case k1 => first | assumption | omega))
  | with_reducible refine Bk.rd_test ?_
  | with_reducible refine Bk.rd_tB ?_
  | with_reducible refine Bk.rd_bl ?_
  | ((with_reducible refine' Bk.rd_eq ?k1 ?_); (case k1 => exact rfl))
  | ((with_reducible refine' Bk.rd_ne ?k1 ?_); (case k1 => exact rfl))
  | with_reducible refine Bk.rd_and ?_
  | with_reducible refine Bk.rd_or ?_
  | with_reducible refine Bk.rd_not ?_
  | with_reducible refine Bk.rd_andV ?_
  | with_reducible refine Bk.rd_isN ?_
  | with_reducible refine Bk.rd_notN ?_
  | with_reducible refine Bk.rd_asg ?_
  | with_reducible refine Bk.rd_nm ?_
  | with_reducible refine Bk.rd_ret ?_
  | with_reducible refine Bk.rd_drop ?_
  | with_reducible refine Bk.rd_if ?_
  | with_reducible refine Bk.rd_ifE ?_
  | ((with_reducible refine' Bk.rd_aug ?k1 ?_); (case k1 => exact rfl))
  | with_reducible refine Bk.rd_ipI ?_
  | with_reducible refine Bk.rd_nil ?_
  | with_reducible refine Bk.rd_cons ?_
  | with_reducible refine Bk.rd_CB ?_
  | with_reducible refine Bk.rd_call ?_
  | with_reducible refine Bk.rd_callS ?_
  | with_reducible refine Bk.rd_un ?_
  | with_reducible refine Bk.rd_U ?_
  | with_reducible refine Bk.rd_fld ?_
  | with_reducible refine Bk.rd_sfld ?_
  | with_reducible refine Bk.rd_tup ?_
  | with_reducible refine Bk.rd_lst ?_
  | with_reducible refine Bk.rd_next ?_
  | with_reducible refine Bk.rd_brk ?_
  | with_reducible refine Bk.rd_BM ?_
  | with_reducible refine Bk.rd_BM0 ?_
  | with_reducible refine Bk.rd_for ?_
  | with_reducible refine Bk.rd_iStr ?_
  | with_reducible refine Bk.rd_fldaug ?_
  | with_reducible refine Bk.rd_mkO ?_
  | with_reducible refine Bk.rd_js ?_
  | with_reducible refine Bk.rd_js0 ?_
  | with_reducible refine Bk.rd_fmt ?_
  | with_reducible refine Bk.rd_erI ?_
  | with_reducible refine Bk.rd_erSet ?_
  | with_reducible refine Bk.rd_lc ?_
  | with_reducible refine Bk.rd_yes' ?_
  | with_reducible refine Bk.rd_iList ?_
  | with_reducible refine Bk.rd_iTup ?_
  | with_reducible refine Bk.rd_iRng1 ?_
  | with_reducible refine Bk.rd_iEnum ?_
  | with_reducible refine Bk.rd_iZip ?_
  | with_reducible refine Bk.rd_iEnumT ?_
  | with_reducible refine Bk.rd_M1 ?_
  | with_reducible refine Bk.rd_dget2 ?_
  | with_reducible refine Bk.rd_dput ?_
  | with_reducible refine Bk.rd_dnotin ?_
  | with_reducible refine Bk.rd_dget ?_
  | with_reducible refine Bk.rd_sl ?_
  | with_reducible refine Bk.rd_noPart ?_
  | with_reducible refine Bk.rd_part ?_
  | with_reducible refine Bk.rd_int ?_
  | with_reducible refine Bk.rd_str ?_
  | with_reducible refine Bk.rd_isstr ?_
  | with_reducible refine Bk.rd_make ?_
  | with_reducible refine Bk.rd_meth ?_
  | with_reducible refine L2.iteT ?_
  | with_reducible refine L2.iteF ?_)
local macro_rules | `(tactic| walk_at "rd") => `(tactic| repeat (walk_at "rd1"))
local macro_rules | `(tactic| walk_at "few") => `(tactic| first | exact (show (0 : Nat) < 1000 by decide) | exact (show (1 : Nat) < 1000 by decide) | exact (show (2 : Nat) < 1000 by decide) | exact (show (3 : Nat) < 1000 by decide) | exact (show (4 : Nat) < 1000 by decide) | exact (show (5 : Nat) < 1000 by decide) | exact (show (6 : Nat) < 1000 by decide) | exact (show (7 : Nat) < 1000 by decide))

/-! the object and its calls: price, why, curve -/
namespace Bk
open PySem hiding Tok
open PySem.Spec hiding Row
open PyProof.Rows L2
open Vamvsa (Table Row Ask columnsOf)
section
variable {P : Program} {w : World} {K : PySem.W.Frag} {mg : Str → Option Value} {base : Heap} {c : Cs}
/-- the groupings told, in order, each once -/
def toldK (t : Table) (l : List Int) : List Nat := (List.range (gN t)).filter fun g => decide ((g : Int) ∈ l)
def inAll (t : Table) (l : List Int) : Prop := ∀ n ∈ l, 0 ≤ n ∧ n < (gN t : Nat)
instance (t : Table) (l : List Int) : Decidable (inAll t l) := by unfold inAll; infer_instance
def room1 (z : Vamvsb.Held) (n : Nat) : Nat := if n ≤ z.m.room then 1 else 0
def tellPrice (z : Vamvsb.Held) (l : List Int) : List Int := if inAll z.t l then intsN [costK z.t z.m.changes (toldK z.t l), linesK z.t (toldK z.t l), readK z.t (toldK z.t l), 2 * (toldK z.t l).length * z.m.changes, room1 z (linesK z.t (toldK z.t l))] else [-2]
theorem sorted_one : ∀ {a b : List Int}, a.Pairwise (· < ·) → b.Pairwise (· < ·) → (∀ x, x ∈ a ↔ x ∈ b) → a = b
  | [], [], _, _, _ => rfl
  | [], y :: b, _, _, h => absurd ((h y).mpr List.mem_cons_self) List.not_mem_nil
  | x :: a, [], _, _, h => absurd ((h x).mp List.mem_cons_self) List.not_mem_nil
  | x :: a, y :: b, ha, hb, h => by
    obtain ⟨a1, a2⟩ := List.pairwise_cons.mp ha
    obtain ⟨b1, b2⟩ := List.pairwise_cons.mp hb
    have e : x = y := by
      rcases List.mem_cons.mp ((h x).mp List.mem_cons_self) with e | e
      · exact e
      · rcases List.mem_cons.mp ((h y).mpr List.mem_cons_self) with e2 | e2
        · exact e2.symm
        · have := b1 x e; have := a1 y e2; omega
    subst e
    rw [sorted_one a2 b2 fun z => ?_]
    constructor
    · intro hz
      rcases List.mem_cons.mp ((h z).mp (List.mem_cons_of_mem _ hz)) with e | e
      · have := a1 z hz; omega
      · exact e
    · intro hz
      rcases List.mem_cons.mp ((h z).mpr (List.mem_cons_of_mem _ hz)) with e | e
      · have := b1 z hz; omega
      · exact e
theorem told_ints {t : Table} {l ns : List Int} (hin : inAll t l) (hs : ns.Pairwise (· < ·)) (hm : ∀ k : Int, k ∈ ns ↔ decide (k ∈ l) = true) : ns = intsN (toldK t l) := by
  refine sorted_one hs ?_ fun x => ?_
  · unfold intsN toldK
    exact List.pairwise_map.mpr ((List.pairwise_lt_range.filter _).imp fun {a b} h => by omega)
  · rw [hm, decide_eq_true_iff]
    unfold intsN toldK
    rw [List.mem_map]
    constructor
    · intro h
      obtain ⟨h1, h2⟩ := hin x h
      refine ⟨x.toNat, List.mem_filter.mpr ⟨List.mem_range.mpr (by omega), decide_eq_true ?_⟩, by omega⟩
      rw [show ((x.toNat : Nat) : Int) = x by omega]
      exact h
    · rintro ⟨g, hg, rfl⟩
      exact of_decide_eq_true (List.mem_filter.mp hg).2
theorem told_gs {t : Table} (hok : TOk t) (l : List Int) : Gs t (toldK t l) := by
  have := List.length_filter_le (fun g : Nat => decide ((g : Int) ∈ l)) (List.range (gN t))
  rw [List.length_range] at this
  have := gN_le hok
  exact ⟨by unfold toldK; omega, fun g hg => List.mem_range.mp (List.mem_filter.mp hg).1⟩
def spPrice (K : PySem.W.Frag) (c : Cs) : Sp := fun vs H Q _ => ∃ (kp la : Addr) (z : Vamvsb.Held) (l : List Int), vs = [.ref kp, .ref la] ∧ KeepAt c H kp (some z) ∧ SqL K H la (l.map V.int) ∧ l.length ≤ 2000 ∧
  ∀ p H', But [kp] H H' → H p = none → H' p = some (.lst (intV (tellPrice z l))) → KeepAt c H' kp (some z) → Q (.ref p) H'
theorem ok_Keeper_price (T : Txt K mg c) : MethOk P w K mg base CX0 4 c.cKeeper "price" ["self", "told"] (spPrice K c) := by
  obtain ⟨f_Keeper_is_grouping, fd_Keeper_is_grouping, m_Keeper_is_grouping, b_Keeper_is_grouping, F_Keeper_is_grouping⟩ := ok_Keeper_is_grouping (P := P) (w := w) (base := base) T
  obtain ⟨f_lines_of, fd_lines_of, g_lines_of, k_lines_of, b_lines_of, F_lines_of⟩ := ok_lines_of (P := P) (w := w) (base := base) T
  obtain ⟨f_reading_of, fd_reading_of, g_reading_of, k_reading_of, b_reading_of, F_reading_of⟩ := ok_reading_of (P := P) (w := w) (base := base) T
  obtain ⟨f_upkeep, fd_upkeep, g_upkeep, k_upkeep, b_upkeep, F_upkeep⟩ := ok_upkeep (P := P) (w := w) (base := base) T
  obtain ⟨f_Keeper_has_room, fd_Keeper_has_room, m_Keeper_has_room, b_Keeper_has_room, F_Keeper_has_room⟩ := ok_Keeper_has_room (P := P) (w := w) (base := base) T
  refine MethOk.make T.m_Keeper_price s_Keeper_price (fun vs H Q E h => ?_) fun f cdv A outer s H vs Q E hr h => ?_
  · obtain ⟨kp, la, z, l, rfl, hK, hl, hlen, q⟩ := h
    rfl
  · obtain ⟨kp, la, z, l, rfl, hK, hl, hlen, q⟩ := h
    refine ⟨_, (pss_cons (ps_if (pt_not (pt_val (pe_callB (cr_all rfl) (by rfl) T.n_all (by decide +kernel) (pa_cons (pe_lc (own := [("number", 6)]) rfl s_Keeper_price.nd (pi_list (pv 1)) (blkOk_by (own := [("number", 6)]) (N := N_Keeper_price) (sc := defScope (inClass (top 94) 8)) (by decide +kernel)) (fun _ _ _ _ _ => (pg_name (i := 6) s_Keeper_price.nd rfl (Or.inl rfl))) (fun _ _ _ _ _ => pts_nil) (fun _ _ _ _ _ => (pe_meth (pv 0) T.k_Keeper m_Keeper_is_grouping F_Keeper_is_grouping (hr.mono (by decide)) b_Keeper_is_grouping .nil pass0 (pa_cons (pv 6) pa_nil)))) pa_nil))))
      (pss_one (ps_ret (pe_lst (pa_cons (pe_glob rfl T.c_NO_SUCH_GROUPING.choose_spec.1 T.c_NO_SUCH_GROUPING.choose_spec.2) pa_nil))))
      pss_nil)
      (pss_cons (ps_set (i := 2) s_Keeper_price.nd rfl (Or.inl rfl) (pe_callB (cr_sortedSet rfl) (by rfl) T.n_sorted (by decide +kernel) (pa_cons (pe_callTy (cr_setOfI rfl) (by rfl) T.n_set (by decide +kernel) (pa_cons (pv 1) pa_nil)) pa_nil)))
      (pss_cons (ps_set (i := 3) s_Keeper_price.nd rfl (Or.inl rfl) (pe_call F_lines_of (hr.mono (by decide)) rfl g_lines_of k_lines_of b_lines_of .nil pass0 (pa_cons (pe_fld (pv 0) rfl) (pa_cons (pv 2) pa_nil))))
      (pss_cons (ps_set (i := 4) s_Keeper_price.nd rfl (Or.inl rfl) (pe_call F_reading_of (hr.mono (by decide)) rfl g_reading_of k_reading_of b_reading_of .nil pass0 (pa_cons (pe_fld (pv 0) rfl) (pa_cons (pv 2) pa_nil))))
      (pss_cons (ps_set (i := 5) s_Keeper_price.nd rfl (Or.inl rfl) (pe_call F_upkeep (hr.mono (by decide)) rfl g_upkeep k_upkeep b_upkeep .nil pass0 (pa_cons (pe_callB call_len_seq (by rfl) T.n_len (by decide +kernel) (pa_cons (pv 2) pa_nil)) (pa_cons (pe_fld (pv 0) rfl) pa_nil))))
      (pss_one (ps_ret (pe_lst (pa_cons (pe_op op_add (pv 4) (pv 5)) (pa_cons (pv 3) (pa_cons (pv 4) (pa_cons (pv 5) (pa_cons (pe_meth (pv 0) T.k_Keeper m_Keeper_has_room F_Keeper_has_room (hr.mono (by decide)) b_Keeper_has_room .nil pass0 (pa_cons (pv 3) pa_nil)) pa_nil))))))))))))), ?_⟩
    walk_at "rd"
    have hsz : sizeLine = 16777216 := rfl
    have hok := hK.tok
    obtain ⟨dx, tb, ca, ra, qa, ga, sv, g1, g2, g3, g4, g5, g6⟩ := id hK
    refine ⟨la, rfl, ⟨_, hl⟩, fun D hD => ?_⟩
    refine lc_it (walk_list (xs := l.map V.int)) (LPv H D fun i => (((l.take i).map fun n : Int => decide (0 ≤ n ∧ n < ((gN z.t : Nat) : Int))).map V.bl)) (LPv.start hD rfl) (fun i H' hi h => seq_ex h.1 hl) ?_ ?_
    · rintro i v H1 H2 hi hP ⟨rfl, hv⟩
      rw [List.getElem?_map] at hv
      obtain ⟨n, hn, rfl⟩ := Option.map_eq_some_iff.mp hv
      walk_at "rd"
      refine ⟨rfl, ?_⟩
      walk_at "rd"
      refine ⟨kp, dx, _, rfl, hP.1 _ _ g1, rfl, ?_⟩
      walk_at "rd"
      refine ⟨kp, z, n, rfl, hK.ex hP.1, ?_⟩
      refine hP.put (fun _ _ e => e) hD ?_ ?_
      · show (((l.take i).map _).map _).length < _
        rw [List.length_map, List.length_map, List.length_take]; omega
      · show ((l.take (i + 1)).map _).map _ = _
        rw [take_snoc hn, List.map_append, List.map_append]; rfl
    · rintro H1 ⟨k1, h1⟩
      rw [List.length_map] at h1
      dsimp only at h1
      rw [List.take_length] at h1
      walk_at "rd"
      refine ⟨D, _, rfl, SqL.of h1, ?_⟩
      have hall : (l.map fun n : Int => decide (0 ≤ n ∧ n < ((gN z.t : Nat) : Int))).all id = decide (inAll z.t l) := by
        rw [List.all_map]
        by_cases h : inAll z.t l
        · rw [decide_eq_true h, List.all_eq_true]
          exact fun n hn => decide_eq_true (h n hn)
        · rw [decide_eq_false h]
          refine Bool.eq_false_iff.mpr fun e => h fun n hn => ?_
          exact of_decide_eq_true (List.all_eq_true.mp e n hn)
      rw [hall]
      walk_at "rd"
      have hK1 := hK.ex k1
      refine rd_iteN (fun hna => ?_) (fun hin => ?_)
      · walk_at "rd"
        refine ⟨(show 1 ≤ sizeLine by decide), fun p hp => ?_⟩
        have kk := k1.trans (Ex.new (o := .lst [.int (-2)]) hp)
        refine q p _ (fun b o _ e => kk b o e) (Ex.none k1 hp) ?_ (hK.ex kk)
        rw [upd_same]
        unfold tellPrice
        rw [if_neg hna]; rfl
      · walk_at "rd"
        refine ⟨la, l, rfl, seq_ex k1 hl, by omega, fun sp cc hsp hcc => ?_⟩
        walk_at "rd"
        have hc16 : cc ≤ 16 := hcc 16 fun n hn => by
          have h1 := hin n hn
          have := gN_le hok
          omega
        have k2 := k1.trans (Ex.new (o := SetO w sp (fun j => decide (j ∈ l)) cc) hsp)
        refine ⟨sp, _, cc, rfl, upd_same, by omega, fun ns p1 hs1 hm1 hl1 hp1 => ?_⟩
        obtain rfl := told_ints hin hs1 hm1
        have hgs := told_gs hok l
        have k3 := k2.trans (Ex.new (o := .lst ((intsN (toldK z.t l)).map V.int)) hp1)
        have e1 : upd (upd H1 sp (SetO w sp (fun j => decide (j ∈ l)) cc)) p1 (.lst ((intsN (toldK z.t l)).map V.int)) p1 = some (.lst (intVs (toldK z.t l))) := by rw [upd_same, intVs_ints]; rfl
        walk_at "rd"
        refine rd_fldAt (k3 _ _ g1) T.k_Keeper T.a_Keeper_groupings rfl ?_
        walk_at "rd"
        refine ⟨ga, p1, z.t, _, rfl, g4.ex k3, g3, SqL.of e1, hgs, fun H3 k4 => ?_⟩
        have k34 := k3.trans k4
        walk_at "rd"
        refine rd_fldAt (k34 _ _ g1) T.k_Keeper T.a_Keeper_groupings rfl ?_
        walk_at "rd"
        refine ⟨ga, p1, z.t, _, rfl, g4.ex k34, g3, SqL.of (k4 _ _ e1), hgs, fun H4 k5 => ?_⟩
        have k35 := k34.trans k5
        walk_at "rd"
        refine ⟨p1, _, rfl, Or.inl (SqL.of (k5 _ _ (k4 _ _ e1))), ?_⟩
        rw [intVs_len]
        walk_at "rd"
        refine rd_fldAt (k35 _ _ g1) T.k_Keeper T.a_Keeper_changes rfl ?_
        walk_at "rd"
        have hg100 := hgs.1
        refine ⟨_, _, rfl, by omega, by omega, ?_⟩
        walk_at "rd"
        refine ⟨kp, dx, _, rfl, k35 _ _ g1, rfl, ?_⟩
        walk_at "rd"
        refine ⟨kp, z, _, rfl, hK.ex k35, ?_⟩
        walk_at "rd"
        refine ⟨(show 5 ≤ sizeLine by decide), fun p hp => ?_⟩
        have kk := k35.trans (Ex.new (o := .lst [.int ((readK z.t (toldK z.t l) : Nat) + 2 * ((toldK z.t l).length : Nat) * (z.m.changes : Nat)), .int (linesK z.t (toldK z.t l) : Nat), .int (readK z.t (toldK z.t l) : Nat), .int (2 * ((toldK z.t l).length : Nat) * (z.m.changes : Nat)), .int (if linesK z.t (toldK z.t l) ≤ z.m.room then 1 else 0)]) hp)
        refine q p _ (fun b o _ e => kk b o e) (Ex.none k35 hp) ?_ (hK.ex kk)
        rw [upd_same]
        unfold tellPrice
        rw [if_pos hin]
        have ea : (((readK z.t (toldK z.t l) : Nat) : Int) + 2 * (((toldK z.t l).length : Nat) : Int) * ((z.m.changes : Nat) : Int)) = ((costK z.t z.m.changes (toldK z.t l) : Nat) : Int) := by
          unfold costK
          rw [Int.natCast_add, Int.natCast_mul, Int.natCast_mul]; rfl
        have eb : (2 * (((toldK z.t l).length : Nat) : Int) * ((z.m.changes : Nat) : Int)) = ((2 * (toldK z.t l).length * z.m.changes : Nat) : Int) := by rw [Int.natCast_mul, Int.natCast_mul]; rfl
        have ec : (if linesK z.t (toldK z.t l) ≤ z.m.room then (1 : Int) else 0) = ((room1 z (linesK z.t (toldK z.t l)) : Nat) : Int) := by
          unfold room1
          split <;> rfl
        rw [ea, eb, ec]; rfl
/-! why -/
def tellWhy (z : Vamvsb.Held) (n : Int) (readers : List Nat) : List Int :=
  if 0 ≤ n ∧ n < ((gN z.t : Nat) : Int) then
    if n.toNat ∈ bestL z then ([1, (costK z.t z.m.changes ((bestL z).filter fun v => v != n.toNat) : Nat) - (costK z.t z.m.changes (bestL z) : Nat), (readers.length : Nat)] : List Int) ++ intsN readers
    else [0, (costK z.t z.m.changes (bestL z ++ [n.toNat]) : Nat) - (costK z.t z.m.changes (bestL z) : Nat), (room1 z (linesK z.t (bestL z ++ [n.toNat])) : Nat)]
  else [-2]
def spWhy (c : Cs) : Sp := fun vs H Q _ => ∃ (kp : Addr) (z : Vamvsb.Held) (n : Int), vs = [.ref kp, .int n] ∧ KeepAt c H kp (some z) ∧
  ∀ p H' rs, But [kp] H H' → H p = none → H' p = some (.lst (intV (tellWhy z n rs))) → KeepAt c H' kp (some z) → (0 ≤ n → n < ((gN z.t : Nat) : Int) → n.toNat ∈ bestL z → readersL z.t (bestL z) n.toNat rs) → Q (.ref p) H'
theorem ok_Keeper_why (T : Txt K mg c) : MethOk P w K mg base CX0 8 c.cKeeper "why" ["self", "grouping"] (spWhy c) := by
  obtain ⟨f_Keeper_is_grouping, fd_Keeper_is_grouping, m_Keeper_is_grouping, b_Keeper_is_grouping, F_Keeper_is_grouping⟩ := ok_Keeper_is_grouping (P := P) (w := w) (base := base) T
  obtain ⟨f_Keeper_best_kept, fd_Keeper_best_kept, m_Keeper_best_kept, b_Keeper_best_kept, F_Keeper_best_kept⟩ := ok_Keeper_best_kept (P := P) (w := w) (base := base) T
  obtain ⟨f_questions_that_read, fd_questions_that_read, g_questions_that_read, k_questions_that_read, b_questions_that_read, F_questions_that_read⟩ := ok_questions_that_read (P := P) (w := w) (base := base) T
  obtain ⟨f_Keeper_cost_beyond, fd_Keeper_cost_beyond, m_Keeper_cost_beyond, b_Keeper_cost_beyond, F_Keeper_cost_beyond⟩ := ok_Keeper_cost_beyond (P := P) (w := w) (base := base) T
  obtain ⟨f_Keeper_has_room, fd_Keeper_has_room, m_Keeper_has_room, b_Keeper_has_room, F_Keeper_has_room⟩ := ok_Keeper_has_room (P := P) (w := w) (base := base) T
  obtain ⟨f_lines_of, fd_lines_of, g_lines_of, k_lines_of, b_lines_of, F_lines_of⟩ := ok_lines_of (P := P) (w := w) (base := base) T
  refine MethOk.make T.m_Keeper_why s_Keeper_why (fun vs H Q E h => ?_) fun f cdv A outer s H vs Q E hr h => ?_
  · obtain ⟨kp, z, n, rfl, hK, q⟩ := h
    rfl
  · obtain ⟨kp, z, n, rfl, hK, q⟩ := h
    refine ⟨_, (pss_cons (ps_if (pt_not (pt_val (pe_meth (pv 0) T.k_Keeper m_Keeper_is_grouping F_Keeper_is_grouping (hr.mono (by decide)) b_Keeper_is_grouping .nil pass0 (pa_cons (pv 1) pa_nil))))
      (pss_one (ps_ret (pe_lst (pa_cons (pe_glob rfl T.c_NO_SUCH_GROUPING.choose_spec.1 T.c_NO_SUCH_GROUPING.choose_spec.2) pa_nil))))
      pss_nil)
      (pss_cons (ps_set (i := 2) s_Keeper_why.nd rfl (Or.inl rfl) (pe_meth0 (pv 0) T.k_Keeper m_Keeper_best_kept F_Keeper_best_kept (hr.mono (by decide)) b_Keeper_best_kept .nil pass0))
      (pss_cons (ps_if (pt_cmpR op_in_seq (pv 1) (pv 2) (by rfl))
      (pss_cons (ps_setLc (i := 3) (own := [("other", 6)]) rfl s_Keeper_why.nd rfl rfl (sw_true rfl rfl rfl (by decide +kernel)) (pi_list (pv 2)) (blkOk_by (own := [("other", 6)]) (N := N_Keeper_why) (sc := defScope (inClass (top 94) 9)) (by decide +kernel)) (fun _ _ _ _ _ => (pg_name (i := 6) s_Keeper_why.nd rfl (Or.inl rfl))) (fun _ _ _ _ _ => (pts_one (pt_cmpR op_ne (pv 6) (pv 1) (nomark _)))) (fun _ _ _ _ _ => (pv 6)))
      (pss_cons (ps_set (i := 4) s_Keeper_why.nd rfl (Or.inl rfl) (pe_call F_questions_that_read (hr.mono (by decide)) rfl g_questions_that_read k_questions_that_read b_questions_that_read .nil pass0 (pa_cons (pe_fld (pv 0) rfl) (pa_cons (pv 1) (pa_cons (pv 2) pa_nil)))))
      (pss_one (ps_ret (pe_op op_cat (pe_lst (pa_cons pe_int (pa_cons (pe_meth (pv 0) T.k_Keeper m_Keeper_cost_beyond F_Keeper_cost_beyond (hr.mono (by decide)) b_Keeper_cost_beyond .nil pass0 (pa_cons (pv 2) (pa_cons (pv 3) pa_nil))) (pa_cons (pe_callB call_len_seq (by rfl) T.n_len (by decide +kernel) (pa_cons (pv 4) pa_nil)) pa_nil)))) (pv 4))))))
      pss_nil)
      (pss_cons (ps_set (i := 5) s_Keeper_why.nd rfl (Or.inl rfl) (pe_op op_cat (pv 2) (pe_lst (pa_cons (pv 1) pa_nil))))
      (pss_one (ps_ret (pe_lst (pa_cons pe_int (pa_cons (pe_meth (pv 0) T.k_Keeper m_Keeper_cost_beyond F_Keeper_cost_beyond (hr.mono (by decide)) b_Keeper_cost_beyond .nil pass0 (pa_cons (pv 2) (pa_cons (pv 5) pa_nil))) (pa_cons (pe_meth (pv 0) T.k_Keeper m_Keeper_has_room F_Keeper_has_room (hr.mono (by decide)) b_Keeper_has_room .nil pass0 (pa_cons (pe_call F_lines_of (hr.mono (by decide)) rfl g_lines_of k_lines_of b_lines_of .nil pass0 (pa_cons (pe_fld (pv 0) rfl) (pa_cons (pv 5) pa_nil))) pa_nil)) pa_nil)))))))))), ?_⟩
    walk_at "rd"
    have hsz : sizeLine = 16777216 := rfl
    have hok := hK.tok
    have hgs := bits_gs (bestC z) hok
    have hg100 := hgs.1
    have hb16 : (bestL z).length ≤ 16 := Nat.le_trans (bitsTo_len _ _) (gN_le hok)
    obtain ⟨dx, tv, gv, sv, r, ch, g1⟩ := hK.at_
    refine ⟨kp, dx, _, rfl, g1, rfl, ?_⟩
    walk_at "rd"
    refine ⟨kp, z, n, rfl, hK, ?_⟩
    walk_at "rd"
    refine rd_iteN (fun hna => ?_) (fun hin => ?_)
    · walk_at "rd"
      refine ⟨(show 1 ≤ sizeLine by decide), fun p hp => ?_⟩
      have kk := Ex.new (o := .lst [.int (-2)]) hp
      refine q p _ [] (fun b o _ e => kk b o e) hp ?_ (hK.ex kk) (fun h1 h2 _ => absurd ⟨h1, h2⟩ hna)
      rw [upd_same]
      unfold tellWhy
      rw [if_neg hna]; rfl
    · obtain ⟨g, rfl⟩ : ∃ g : Nat, n = (g : Int) := ⟨n.toNat, by omega⟩
      have hg : g < gN z.t := by omega
      walk_at "rd"
      refine ⟨kp, dx, _, rfl, g1, rfl, ?_⟩
      refine ⟨kp, z, rfl, hK, fun p1 H1 b1 hp1 hpk hl1 hK1 => ?_⟩
      obtain ⟨dx1, tb, ca, ra, qa, ga, sv1, f1, f2, f3, f4, f5, f6⟩ := id hK1
      walk_at "rd"
      refine ⟨p1, _, rfl, Or.inl (SqL.of hl1), rfl, intVs_flat _, ?_⟩
      rw [if_neg (by decide), inV_ints]
      walk_at "rd"
      refine rd_ite (fun hin2 => ?_) (fun hnin => ?_)
      · walk_at "rd"
        refine ⟨p1, rfl, ⟨_, SqL.of hl1⟩, fun D hD => ?_⟩
        refine lc_it (walk_list (xs := intVs (bestL z))) (LPv H1 D fun i => intVs (((bestL z).take i).filter fun v => v != g)) (LPv.start hD rfl) (fun i H' hi h => SqL.of (h.1 _ _ hl1)) ?_ ?_
        · rintro i v H2 H3 hi hP ⟨rfl, hv⟩
          obtain ⟨m, hm, rfl⟩ := intVs_get hv
          walk_at "rd"
          refine ⟨rfl, ?_⟩
          walk_at "rd"
          refine rd_iteN (fun hne => ?_) (fun heq => ?_)
          · have hne' : (m != g) = true := by
              rw [bne_iff_ne]
              exact fun z => hne (by rw [z])
            walk_at "rd"
            refine hP.put (fun _ _ e => e) hD ?_ ?_
            · show (intVs _).length < _
              rw [intVs_len]
              have := List.length_filter_le (fun v => v != g) ((bestL z).take i)
              rw [List.length_take] at this
              omega
            · show intVs _ = intVs _ ++ [_]
              rw [take_snoc hm, List.filter_append, intVs_app, List.filter_cons, hne']; rfl
          · have heq' : (m != g) = false := by
              rw [bne_eq_false_iff_eq]
              exact Int.ofNat.inj (V.int.inj heq)
            refine hP.skip (fun _ _ e => e) ?_
            show intVs _ = intVs _
            rw [take_snoc hm, List.filter_append, intVs_app, List.filter_cons, heq']
            exact List.append_nil _
        · rintro H2 ⟨k2, hD2⟩
          rw [intVs_len] at hD2
          dsimp only at hD2
          rw [List.take_length] at hD2
          have hgs2 : Gs z.t ((bestL z).filter fun v => v != g) := ⟨by have := List.length_filter_le (fun v => v != g) (bestL z); omega, fun x hx => hgs.2 x (List.mem_filter.mp hx).1⟩
          walk_at "rd"
          refine rd_fldAt (k2 _ _ f1) T.k_Keeper T.a_Keeper_groupings rfl ?_
          walk_at "rd"
          refine ⟨ga, p1, z.t, bestL z, g, rfl, f4.ex k2, f3, SqL.of (k2 _ _ hl1), hgs, fun p3 H3 rs k3 hp3 hl3 hrl hrs => ?_⟩
          have k23 := k2.trans k3
          walk_at "rd"
          refine ⟨kp, dx1, _, rfl, k23 _ _ f1, rfl, ?_⟩
          walk_at "rd"
          refine ⟨kp, p1, D, z, bestL z, _, rfl, hK1.ex k23, SqL.of (k23 _ _ hl1), hgs, SqL.of (k3 _ _ hD2), hgs2, fun H4 k4 => ?_⟩
          have k24 := k23.trans k4
          walk_at "rd"
          refine ⟨p3, _, rfl, Or.inl (SqL.of (k4 _ _ hl3)), ?_⟩
          rw [intVs_len]
          walk_at "rd"
          refine ⟨(show 3 ≤ sizeLine by decide), fun p4 hp4 => ?_⟩
          walk_at "rd"
          have k5 := Ex.new (o := .lst [.int 1, .int ((costK z.t z.m.changes ((bestL z).filter fun v => v != g) : Nat) - (costK z.t z.m.changes (bestL z) : Nat)), .int (rs.length : Nat)]) hp4
          refine ⟨p4, p3, _, _, rfl, rfl, upd_same, k5 _ _ (k4 _ _ hl3), by rw [intVs_len]; show 3 + _ ≤ _; omega, fun p hp => ?_⟩
          have kk := (k24.trans k5).trans (Ex.new (o := .lst ([.int 1, .int ((costK z.t z.m.changes ((bestL z).filter fun v => v != g) : Nat) - (costK z.t z.m.changes (bestL z) : Nat)), .int (rs.length : Nat)] ++ intVs rs)) hp)
          have hpn := Ex.none (k24.trans k5) hp
          have hpk2 := hK1.ne hpn
          refine q p _ rs (fun b o hb e => kk b o (b1 b o hb e)) (b1.none (by simpa using hpk2) hpn) ?_ (hK1.ex kk) (fun _ _ _ => hrs)
          rw [upd_same]
          unfold tellWhy
          rw [if_pos hin, Int.toNat_natCast, if_pos hin2, intVs_ints]
          unfold intV
          rw [List.map_append]; rfl
      · walk_at "rd"
        refine ⟨(show 1 ≤ sizeLine by decide), fun p2 hp2 => ?_⟩
        walk_at "rd"
        have k2 := Ex.new (o := .lst [.int (g : Nat)]) hp2
        refine ⟨p1, p2, _, _, rfl, rfl, k2 _ _ hl1, upd_same, by rw [intVs_len]; show _ + 1 ≤ _; omega, fun p3 hp3 => ?_⟩
        walk_at "rd"
        have k3 := k2.trans (Ex.new (o := .lst (intVs (bestL z) ++ [.int (g : Nat)])) hp3)
        have e3 : upd (upd H1 p2 (.lst [.int (g : Nat)])) p3 (.lst (intVs (bestL z) ++ [.int (g : Nat)])) p3 = some (.lst (intVs (bestL z ++ [g]))) := by rw [upd_same, intVs_app]; rfl
        have hgs2 : Gs z.t (bestL z ++ [g]) := ⟨by rw [List.length_append]; show _ + 1 ≤ _; omega, fun x hx => by
          rcases List.mem_append.mp hx with hx | hx
          · exact hgs.2 x hx
          · rw [List.mem_singleton.mp hx]; exact hg⟩
        refine ⟨kp, dx1, _, rfl, k3 _ _ f1, rfl, ?_⟩
        walk_at "rd"
        refine ⟨kp, p1, p3, z, bestL z, _, rfl, hK1.ex k3, SqL.of (k3 _ _ hl1), hgs, SqL.of e3, hgs2, fun H4 k4 => ?_⟩
        have k34 := k3.trans k4
        walk_at "rd"
        refine ⟨kp, dx1, _, rfl, k34 _ _ f1, rfl, ?_⟩
        walk_at "rd"
        refine rd_fldAt (k34 _ _ f1) T.k_Keeper T.a_Keeper_groupings rfl ?_
        walk_at "rd"
        refine ⟨ga, p3, z.t, _, rfl, f4.ex k34, f3, SqL.of (k4 _ _ e3), hgs2, fun H5 k5 => ?_⟩
        have k35 := k34.trans k5
        walk_at "rd"
        refine ⟨kp, z, _, rfl, hK1.ex k35, ?_⟩
        walk_at "rd"
        refine ⟨(show 3 ≤ sizeLine by decide), fun p hp => ?_⟩
        have kk := k35.trans (Ex.new (o := .lst [.int 0, .int ((costK z.t z.m.changes (bestL z ++ [g]) : Nat) - (costK z.t z.m.changes (bestL z) : Nat)), .int (if linesK z.t (bestL z ++ [g]) ≤ z.m.room then 1 else 0)]) hp)
        have hpn := Ex.none k35 hp
        have hpk2 := hK1.ne hpn
        refine q p _ [] (fun b o hb e => kk b o (b1 b o hb e)) (b1.none (by simpa using hpk2) hpn) ?_ (hK1.ex kk) (fun _ _ h3 => absurd h3 (by rw [Int.toNat_natCast]; exact hnin))
        rw [upd_same]
        unfold tellWhy
        have ec : (if linesK z.t (bestL z ++ [g]) ≤ z.m.room then (1 : Int) else 0) = ((room1 z (linesK z.t (bestL z ++ [g])) : Nat) : Int) := by
          unfold room1
          split <;> rfl
        rw [if_pos hin, Int.toNat_natCast, if_neg hnin, ec]; rfl
/-! the curve -/
def tellCurve (l : List (Nat × Nat)) : List Int := intsN (l.length :: l.flatMap fun x => [x.1, x.2])
def IsCurve (t : Table) (ch : Nat) (ss : List (Nat × Nat)) : Prop := ss.Pairwise (fun x y => x.1 < y.1) ∧ ∀ x, x ∈ ss ↔ MinAt t ch (2 ^ gN t) x
def spCurve (c : Cs) : Sp := fun vs H Q _ => ∃ (kp : Addr) (z : Vamvsb.Held), vs = [.ref kp] ∧ KeepAt c H kp (some z) ∧
  ∀ p H' ss, But [kp] H H' → H p = none → H' p = some (.lst (intV (tellCurve (Vamvsb.fall none ss)))) → KeepAt c H' kp (some z) → IsCurve z.t z.m.changes ss → Q (.ref p) H'
theorem ok_Keeper_curve (T : Txt K mg c) : MethOk P w K mg base CX0 7 c.cKeeper "curve" ["self"] (spCurve c) := by
  obtain ⟨f_rooms_that_bring, fd_rooms_that_bring, g_rooms_that_bring, k_rooms_that_bring, b_rooms_that_bring, F_rooms_that_bring⟩ := ok_rooms_that_bring (P := P) (w := w) (base := base) T
  obtain ⟨f_Keeper_every_set, fd_Keeper_every_set, m_Keeper_every_set, b_Keeper_every_set, F_Keeper_every_set⟩ := ok_Keeper_every_set (P := P) (w := w) (base := base) T
  refine MethOk.make T.m_Keeper_curve s_Keeper_curve (fun vs H Q E h => ?_) fun f cdv A outer s H vs Q E hr h => ?_
  · obtain ⟨kp, z, rfl, hK, q⟩ := h
    rfl
  · obtain ⟨kp, z, rfl, hK, q⟩ := h
    refine ⟨_, (pss_cons (ps_set (i := 1) s_Keeper_curve.nd rfl (Or.inl rfl) (pe_call F_rooms_that_bring (hr.mono (by decide)) rfl g_rooms_that_bring k_rooms_that_bring b_rooms_that_bring .nil pass0 (pa_cons (pe_meth0 (pv 0) T.k_Keeper m_Keeper_every_set F_Keeper_every_set (hr.mono (by decide)) b_Keeper_every_set .nil pass0) (pa_cons (pe_fld (pv 0) rfl) pa_nil))))
      (pss_cons (ps_set (i := 2) s_Keeper_curve.nd rfl (Or.inl rfl) (pe_lst (pa_cons (pe_callB call_len_seq (by rfl) T.n_len (by decide +kernel) (pa_cons (pv 1) pa_nil)) pa_nil)))
      (pss_cons (ps_for PassesOwn.never rfl (pi_list (pv 1)) (pg_tup rfl (pgs_cons (pg_name (i := 3) s_Keeper_curve.nd rfl (Or.inl rfl)) (pgs_cons (pg_name (i := 4) s_Keeper_curve.nd rfl (Or.inl rfl)) pgs_nil)))
      (pss_one (ps_expr (pe_bm PySem.F.plainAttrs_list PySem.F.slot_list_extend PySem.F.type_list_extend mt_extend (pv 2) (pa_cons (pe_lst (pa_cons (pv 3) (pa_cons (pv 4) pa_nil))) pa_nil)))))
      (pss_one (ps_ret (pv 2)))))), ?_⟩
    walk_at "rd"
    have hsz : sizeLine = 16777216 := rfl
    have hok := hK.tok
    obtain ⟨dx, tv, gv, sv, r, ch, g1⟩ := hK.at_
    refine ⟨kp, dx, _, rfl, g1, rfl, ?_⟩
    refine ⟨kp, z, rfl, hK, fun sa H1 b1 hK1 hS => ?_⟩
    obtain ⟨dx1, tb, ca, ra, qa, ga, sv1, f1, f2, f3, f4, f5, f6⟩ := id hK1
    walk_at "rd"
    refine rd_fldAt f1 T.k_Keeper T.a_Keeper_changes rfl ?_
    walk_at "rd"
    refine ⟨sa, z.t, z.m.changes, rfl, hS, hok, fun p1 H2 us ss k2 hp1 hl1 hul hss hmin hA => ?_⟩
    generalize hF : Vamvsb.fall none ss = F at hA
    have hlen : us.length = F.length := hA.len
    walk_at "rd"
    refine ⟨p1, _, rfl, Or.inl (SqL.of hl1), ?_⟩
    rw [hlen]
    walk_at "rd"
    refine ⟨(show 1 ≤ sizeLine by decide), fun L hL => ?_⟩
    walk_at "rd"
    have k3 := Ex.new (o := .lst [.int (F.length : Nat)]) hL
    refine ⟨p1, rfl, ⟨_, SqL.of (k3 _ _ hl1)⟩, ?_⟩
    have hL0 : H1 L = none := Ex.none k2 hL
    have k23 := k2.trans k3
    have hLL : upd H2 L (.lst [.int (F.length : Nat)]) L = some (.lst (intV (intsN (F.length :: (F.take 0).flatMap fun x => [x.1, x.2])))) := by rw [upd_same]; rfl
    generalize upd H2 L (.lst [.int (F.length : Nat)]) = H3 at k3 k23 hLL ⊢
    have p1L : p1 ≠ L := fun y => by
      rw [y, hL] at hl1; cases hl1
    refine for_it (walk_list (xs := us)) (fun i σ H' => ∃ (x y : Option V), σ = [some (.ref kp), some (.ref p1), some (.ref L), x, y] ∧ But [L] H3 H' ∧ H' L = some (.lst (intV (intsN (F.length :: (F.take i).flatMap fun x => [x.1, x.2])))) ∧ ((F.take i).flatMap fun x => [x.1, x.2]).length ≤ 2 * i)
      ⟨none, none, rfl, But.refl _, hLL, Nat.le_refl _⟩ (fun i σ H' hi h => by
      obtain ⟨_, _, _, k, _⟩ := h
      exact SqL.of (k _ _ (by simpa using p1L) (k3 _ _ hl1))) ?_ ?_
    · rintro i v σ H4 H5 hi ⟨x0, y0, rfl, k4, hl4, hlen4⟩ ⟨rfl, hv⟩
      obtain ⟨x, hx, a, rfl, ha⟩ := hA.get hv
      have ha3 := k3 _ _ ha
      have haL : a ≠ L := fun y => by rw [y, hLL] at ha3; cases ha3
      have hla : (intV (intsN (F.length :: (F.take i).flatMap fun x => [x.1, x.2]))).length ≤ 2 * i + 1 := by
        unfold intV intsN
        rw [List.length_map, List.length_map, List.length_cons]
        omega
      refine rd_tup2 (k4 _ _ (by simpa using haL) ha3) ?_
      walk_at "rd"
      refine ⟨Or.inl ⟨rfl, _, SqL.of hl4⟩, ?_⟩
      walk_at "rd"
      refine ⟨(show 2 ≤ sizeLine by decide), fun p2 hp2 => ?_⟩
      walk_at "rd"
      have k5 := Ex.new (o := .lst [.int (x.1 : Nat), .int (x.2 : Nat)]) hp2
      have ef : (F.take (i + 1)).flatMap (fun x => [x.1, x.2]) = (F.take i).flatMap (fun x => [x.1, x.2]) ++ [x.1, x.2] := by
        rw [take_snoc hx, List.flatMap_append]
        simp
      refine ⟨L, p2, _, _, rfl, rfl, k5 _ _ hl4, upd_same, by show _ + 2 ≤ _; omega, ?_⟩
      refine ⟨_, _, rfl, fun b o hb e => ?_, ?_, ?_⟩
      · rw [upd_ne (by simpa using hb)]
        exact k5 _ _ (k4 b o hb e)
      · rw [upd_same, ef]
        unfold intV intsN
        rw [← List.cons_append, List.map_append, List.map_append]; rfl
      · rw [ef, List.length_append]
        show _ + 2 ≤ _
        omega
    · rintro σ H4 ⟨x0, y0, rfl, k4, hl4, hlen4⟩
      rw [hlen, List.take_length] at hl4
      walk_at "rd"
      have kk : Ex H1 H4 := fun b o e => k4 b o (by simpa using ne_of_none e hL0) (k23 b o e)
      have hpk := hK1.ne hL0
      exact q L H4 ss (fun b o hb e => kk b o (b1 b o hb e)) (b1.none (by simpa using hpk) hL0) (by rw [hF]; exact hl4) (hK1.ex kk) ⟨hss, hmin⟩
end
end Bk
end
section
local macro_rules | `(tactic| walk_at "rd1") => `(tactic| first
  | with_reducible refine Bk.rd_seq ?_
  | ((with_reducible refine' Bk.rd_var ?k1 ?_); (case k1 => exact rfl))
  | with_reducible refine Bk.rd_c ?_
  | with_reducible refine Bk.rd_op ?_
  | with_reducible refine Bk.rd_I0 ?_
  | ((with_reducible refine' Bk.rd_I ?k1 ?_); (case k1 => first | assumption | omega))
  | with_reducible refine Bk.rd_test ?_
  | with_reducible refine Bk.rd_tB ?_
  | with_reducible refine Bk.rd_bl ?_
  | ((with_reducible refine' Bk.rd_eq ?k1 ?_); (case k1 => exact rfl))
  | ((with_reducible refine' Bk.rd_ne ?k1 ?_); (case k1 => exact rfl))
  | with_reducible refine Bk.rd_and ?_
  | with_reducible refine Bk.rd_or ?_
  | with_reducible refine Bk.rd_not ?_
  | with_reducible refine Bk.rd_andV ?_
  | with_reducible refine Bk.rd_isN ?_
  | with_reducible refine Bk.rd_notN ?_
  | with_reducible refine Bk.rd_asg ?_
  | with_reducible refine Bk.rd_nm ?_
  | with_reducible refine Bk.rd_ret ?_
  | with_reducible refine Bk.rd_drop ?_
  | with_reducible refine Bk.rd_if ?_
  | with_reducible refine Bk.rd_ifE ?_
  | ((with_reducible refine' Bk.rd_aug ?k1 ?_); (case k1 => exact rfl))
  | with_reducible refine Bk.rd_ipI ?_
  | with_reducible refine Bk.rd_nil ?_
  | with_reducible refine Bk.rd_cons ?_
  | with_reducible refine Bk.rd_CB ?_
  | with_reducible refine Bk.rd_call ?_
  | with_reducible refine Bk.rd_callS ?_
  | with_reducible refine Bk.rd_un ?_
  | with_reducible refine Bk.rd_U ?_
  | with_reducible refine Bk.rd_fld ?_
  | with_reducible refine Bk.rd_sfld ?_
  | with_reducible refine Bk.rd_tup ?_
  | with_reducible refine Bk.rd_lst ?_
  | with_reducible refine Bk.rd_next ?_
  | with_reducible refine Bk.rd_brk ?_
  | with_reducible refine Bk.rd_BM ?_
  | with_reducible refine Bk.rd_BM0 ?_
  | with_reducible refine Bk.rd_for ?_
  | with_reducible refine Bk.rd_iStr ?_
  | with_reducible refine Bk.rd_fldaug ?_
  | with_reducible refine Bk.rd_mkO ?_
  | with_reducible refine Bk.rd_js ?_
  | with_reducible refine Bk.rd_js0 ?_
  | with_reducible refine Bk.rd_fmt ?_
  | with_reducible refine Bk.rd_erI ?_
  | with_reducible refine Bk.rd_erSet ?_
  | with_reducible refine Bk.rd_lc ?_
  | with_reducible refine Bk.rd_yes' ?_
  | with_reducible refine Bk.rd_iList ?_
  | with_reducible refine Bk.rd_iTup ?_
  | with_reducible refine Bk.rd_iRng1 ?_
  | with_reducible refine Bk.rd_iEnum ?_
  | with_reducible refine Bk.rd_iZip ?_
  | with_reducible refine Bk.rd_iEnumT ?_
  | with_reducible refine Bk.rd_M1 ?_
  | with_reducible refine Bk.rd_dget2 ?_
  | with_reducible refine Bk.rd_dput ?_
  | with_reducible refine Bk.rd_dnotin ?_
  | with_reducible refine Bk.rd_dget ?_
  | with_reducible refine Bk.rd_sl ?_
  | with_reducible refine Bk.rd_noPart ?_
  | with_reducible refine Bk.rd_part ?_
  | with_reducible refine Bk.rd_int ?_
  | with_reducible refine Bk.rd_str ?_
  | with_reducible refine Bk.rd_isstr ?_
  | with_reducible refine Bk.rd_make ?_
  | with_reducible refine Bk.rd_meth ?_
  | with_reducible refine L2.iteT ?_
  | with_reducible refine L2.iteF ?_)
local macro_rules | `(tactic| walk_at "rd") => `(tactic| repeat (walk_at "rd1"))
local macro_rules | `(tactic| walk_at "few") => `(tactic| first | exact (show (0 : Nat) < 1000 by decide) | exact (show (1 : Nat) < 1000 by decide) | exact (show (2 : Nat) < 1000 by decide) | exact (show (3 : Nat) < 1000 by decide) | exact (show (4 : Nat) < 1000 by decide) | exact (show (5 : Nat) < 1000 by decide) | exact (show (6 : Nat) < 1000 by decide) | exact (show (7 : Nat) < 1000 by decide))

/-! the object and its calls: load, all of them -/
namespace Bk
open PySem hiding Tok
open PySem.Spec hiding Row
open PyProof.Rows L2
open Vamvsa (Table Row Ask columnsOf)
section
variable {P : Program} {w : World} {K : PySem.W.Frag} {mg : Str → Option Value} {base : Heap} {c : Cs}
def tellLoad (b : List UInt8) : List Int := match Vamvsa.read b with
  | .ok t => intsN [1, t.cols.length, t.rows.length, t.asks.length]
  | .error f => intsN [0, f.code, f.place]
def loadObj (o : Vamvsb.Obj) (b : List UInt8) : Vamvsb.Obj := match Vamvsa.read b with
  | .ok t => some ⟨t, ⟨1000000, 0⟩⟩
  | .error _ => o
def t_loadSuite (c : Cs) (a : Addr) (cls : Value) (d : Option Addr) : TS := tRet (tLst (tCons (tC (.int 0)) (tCons (tXf a cls d c.cFault "code" (tVar 3)) (tCons (tXf a cls d c.cFault "place" (tVar 3)) tNil))))
def spLoad (K : PySem.W.Frag) (c : Cs) : Sp := fun vs H Q _ => ∃ (kp ta : Addr) (o : Vamvsb.Obj) (b : List UInt8), vs = [.ref kp, .ref ta] ∧ KeepAt c H kp o ∧ SqL K H ta (b.map bv) ∧ b.length ≤ 8192 ∧
  ∀ p H', But [kp] H H' → H p = none → H' p = some (.lst (intV (tellLoad b))) → KeepAt c H' kp (loadObj o b) → Q (.ref p) H'
theorem ok_Keeper_load (T : Txt K mg c) : MethOk P w K mg base CX0 8 c.cKeeper "load" ["self", "text"] (spLoad K c) := by
  obtain ⟨f_Groupings_init, fd_Groupings_init, m_Groupings_init, b_Groupings_init, F_Groupings_init⟩ := ok_Groupings_init (P := P) (w := w) (base := base) T
  obtain ⟨f_read_table, fd_read_table, g_read_table, k_read_table, b_read_table, F_read_table⟩ := ok_read_table (P := P) (w := w) (base := base) T
  refine MethOk.make T.m_Keeper_load s_Keeper_load (fun vs H Q E h => ?_) fun f cdv A outer s H vs Q E hr h => ?_
  · obtain ⟨kp, ta, o, b, rfl, hK, hta, hb, q⟩ := h
    rfl
  · obtain ⟨kp, ta, o, b, rfl, hK, hta, hb, q⟩ := h
    refine ⟨_, (pss_cons (ps_try_as (i := 3) (tb := fun W => tAsg (tCallS (spReadTable K c) (WE W) (tCons (tVar 1) tNil)) (gName 2)) (ts := t_loadSuite c) (Wout := fun _ _ _ _ => False) rfl rfl s_Keeper_load.nd rfl rfl ⟨rfl, by decide, Or.inl T.k_Fault.2.2.1⟩ takes0 (fun W pn xe tk _ => pss_one (ps_set (i := 2) s_Keeper_load.nd rfl (Or.inl rfl) (by exact (pe_callS F_read_table (hr.mono (by decide)) rfl g_read_table k_read_table b_read_table (fun σ => passAt tk σ) (by exact (pa_cons (pv 1) pa_nil)))))) (fun a oe cls d pn hz hf => pss_one (ps_ret (by exact (pe_lst (pa_cons pe_int (pa_cons (pe_xf T.k_Fault.2.1 T.a_Fault_code hz hf (pv 3)) (pa_cons (pe_xf T.k_Fault.2.1 T.a_Fault_place hz hf (pv 3)) pa_nil))))))))
      (pss_cons (ps_fld (pv 0) (pv 2) rfl)
      (pss_cons (ps_fld (pv 0) (pe_make m_Groupings_init F_Groupings_init (hr.mono (by decide)) rfl T.g_Groupings b_Groupings_init .nil pass0 (pa_cons (pv 2) pa_nil)) rfl)
      (pss_cons (ps_fld (pv 0) pe_non rfl)
      (pss_cons (ps_fld (pv 0) (pe_glob rfl T.c_FIRST_ROOM.choose_spec.1 T.c_FIRST_ROOM.choose_spec.2) rfl)
      (pss_cons (ps_fld (pv 0) (pe_glob rfl T.c_FIRST_CHANGES.choose_spec.1 T.c_FIRST_CHANGES.choose_spec.2) rfl)
      (pss_one (ps_ret (pe_lst (pa_cons pe_int (pa_cons (pe_callB call_len_seq (by rfl) T.n_len (by decide +kernel) (pa_cons (pe_fld (pv 2) rfl) pa_nil)) (pa_cons (pe_callB call_len_seq (by rfl) T.n_len (by decide +kernel) (pa_cons (pe_fld (pv 2) rfl) pa_nil)) (pa_cons (pe_callB call_len_seq (by rfl) T.n_len (by decide +kernel) (pa_cons (pe_fld (pv 2) rfl) pa_nil)) pa_nil))))))))))))), ?_⟩
    walk_at "rd"
    have hsz : sizeLine = 16777216 := rfl
    refine ⟨ta, b, rfl, hta, hb, fun ft hf => ?_, fun t ht tb ca ra qa H1 k1 htb hca hra hqa hT hok => ?_⟩
    · intro d H1 kF hd
      have k1 : Ex H H1 := fun b o e => kF b o (by simp) e
      refine ⟨true, T.k_Fault.2.2.2.1, fun _ a ha => ?_, fun z => nomatch z⟩
      unfold t_loadSuite
      walk_at "rd"
      refine ⟨_, rfl, rfl, rfl, d, _, _, rfl, hd, rfl, ?_⟩
      walk_at "rd"
      refine ⟨_, rfl, rfl, rfl, d, _, _, rfl, hd, rfl, ?_⟩
      walk_at "rd"
      refine ⟨(show 3 ≤ sizeLine by decide), fun p hp => ?_⟩
      have kk := k1.trans (Ex.new (o := .lst [.int 0, .int ft.code, .int ft.place]) hp)
      refine q p _ (fun b o _ e => kk b o e) (Ex.none k1 hp) ?_ ?_
      · rw [upd_same]
        unfold tellLoad
        rw [hf]; rfl
      · unfold loadObj
        rw [hf]
        exact hK.ex kk
    · obtain ⟨dx, tv, gv, sv, r, ch, g0⟩ := hK.at_
      have g1 := k1 _ _ g0
      walk_at "rd"
      refine rd_sfldAt g1 T.k_Keeper T.a_Keeper_table (by walk_at "few") ?_
      have b1 : But [kp] H1 (upd H1 kp (.ins c.cKeeper dx (putF "table" (.ref tb) (keepF tv gv sv r ch)))) := fun b o hb e => by rw [upd_ne (by simpa using hb)]; exact e
      have e1 : upd H1 kp (.ins c.cKeeper dx (putF "table" (.ref tb) (keepF tv gv sv r ch))) kp = some (.ins c.cKeeper dx (keepF (.ref tb) gv sv r ch)) := upd_same
      have hT1 := hT.butK g1 b1
      generalize upd H1 kp (.ins c.cKeeper dx (putF "table" (.ref tb) (keepF tv gv sv r ch))) = H2 at b1 e1 hT1 ⊢
      walk_at "rd"
      intro x dxx hx hdx hne
      have k2 : Ex H2 (upd (upd H2 dxx (.own x)) x (.ins c.cGroupings dxx [])) := Ex.obj hx hdx
      refine ⟨x, dxx, tb, ca, ra, qa, t, rfl, upd_same, hT1.ex k2, hok, fun H3 b3 hG => ⟨rfl, ?_⟩⟩
      have k3 : Ex H2 H3 := fun b o e => b3 b o (by simpa using ne_of_none e hx) (k2 b o e)
      have hT3 := hT1.ex k3
      have e3 := k3 _ _ e1
      walk_at "rd"
      refine rd_sfldAt e3 T.k_Keeper T.a_Keeper_groupings (by walk_at "few") ?_
      walk_at "rd"
      refine rd_sfldAt upd_same T.k_Keeper T.a_Keeper_sets (by walk_at "few") ?_
      walk_at "rd"
      refine rd_sfldAt upd_same T.k_Keeper T.a_Keeper_room (by walk_at "few") ?_
      walk_at "rd"
      refine rd_sfldAt upd_same T.k_Keeper T.a_Keeper_changes (by walk_at "few") ?_
      rw [upd_upd, upd_upd, upd_upd]
      have b4 : But [kp] H3 (upd H3 kp (.ins c.cKeeper dx (putF "changes" (.int 0) (putF "room" (.int 1000000) (putF "sets" .non (putF "groupings" (.ref x) (keepF (.ref tb) gv sv r ch))))))) := fun b o hb e => by rw [upd_ne (by simpa using hb)]; exact e
      have e4 : upd H3 kp (.ins c.cKeeper dx (putF "changes" (.int 0) (putF "room" (.int 1000000) (putF "sets" .non (putF "groupings" (.ref x) (keepF (.ref tb) gv sv r ch)))))) kp = some (.ins c.cKeeper dx (keepF (.ref tb) (.ref x) .non 1000000 0)) := upd_same
      have hT4 := hT3.butK e3 b4
      have hG4 := hG.butK e3 b4
      have bb : But [kp] H (upd H3 kp (.ins c.cKeeper dx (putF "changes" (.int 0) (putF "room" (.int 1000000) (putF "sets" .non (putF "groupings" (.ref x) (keepF (.ref tb) gv sv r ch))))))) := fun b o hb e => b4 b o hb (k3 b o (b1 b o hb (k1 b o e)))
      generalize upd H3 kp (.ins c.cKeeper dx (putF "changes" (.int 0) (putF "room" (.int 1000000) (putF "sets" .non (putF "groupings" (.ref x) (keepF (.ref tb) gv sv r ch)))))) = H4 at b4 e4 hT4 hG4 bb ⊢
      obtain ⟨⟨dt, o4⟩, hc4, ⟨rvs, hr4, ar⟩, ⟨qvs, hq4, aq⟩, _⟩ := id hT4
      have hcl : (nameVs t.cols).length = t.cols.length := by unfold nameVs; rw [List.length_map]
      walk_at "rd"
      refine rd_fldAt o4 T.k_Table T.a_Table_columns rfl ?_
      walk_at "rd"
      refine ⟨ca, _, rfl, Or.inl (SqL.of hc4), ?_⟩
      rw [hcl]
      walk_at "rd"
      refine rd_fldAt o4 T.k_Table T.a_Table_rows rfl ?_
      walk_at "rd"
      refine ⟨ra, _, rfl, Or.inl (SqL.of hr4), ?_⟩
      rw [ar.len]
      walk_at "rd"
      refine rd_fldAt o4 T.k_Table T.a_Table_questions rfl ?_
      walk_at "rd"
      refine ⟨qa, _, rfl, Or.inl (SqL.of hq4), ?_⟩
      rw [aq.len]
      walk_at "rd"
      refine ⟨(show 4 ≤ sizeLine by decide), fun p hp => ?_⟩
      have kn := Ex.new (o := .lst [.int 1, .int (t.cols.length : Nat), .int (t.rows.length : Nat), .int (t.asks.length : Nat)]) hp
      have hpk : p ≠ kp := fun y => by rw [y, e4] at hp; cases hp
      refine q p _ (fun b o hb e => kn b o (bb b o hb e)) (bb.none (by simpa using hpk) hp) ?_ ?_
      · rw [upd_same]
        unfold tellLoad
        rw [ht]; rfl
      · unfold loadObj
        rw [ht]
        exact ⟨dx, tb, ca, ra, qa, x, .non, kn _ _ e4, hT4.ex kn, hok, hG4.ex kn, .inl rfl, Nat.le_refl _, Nat.zero_le _⟩
/-! ### a call -/
/-- what a call's numbers are, and what is due, in the words of the defs -/
inductive Due (o : Vamvsb.Obj) : Int → List Int → List Int → Vamvsb.Obj → Prop where
  | load (b : List UInt8) (h : b.length ≤ 8192) : Due o 0 (b.map fun x => (x.toNat : Int)) (tellLoad b) (loadObj o b)
  | shown : Due o 1 [] (match o with | none => [-1] | some z => tellShown z.t) o
  | terms (r ch : Int) : Due o 2 [r, ch] (match o with | none => [-1] | some _ => tellTerms r ch) (match o with | none => none | some z => some (termsObj z r ch))
  | best : Due o 3 [] (match o with | none => [-1] | some z => tellSet z.t z.m.changes (bestL z)) o
  | steps : Due o 4 [] (match o with | none => [-1] | some z => tellSet z.t z.m.changes (stepsK z)) o
  | few (n : Int) : Due o 5 [n] (match o with | none => [-1] | some z => tellFews z n) o
  | price (l : List Int) (h : l.length ≤ 2000) : Due o 6 l (match o with | none => [-1] | some z => tellPrice z l) o
  | why (n : Int) (rs : List Nat) (h : ∀ z, o = some z → 0 ≤ n → n < ((gN z.t : Nat) : Int) → n.toNat ∈ bestL z → readersL z.t (bestL z) n.toNat rs) : Due o 7 [n] (match o with | none => [-1] | some z => tellWhy z n rs) o
  | curve (ss : List (Nat × Nat)) (h : ∀ z, o = some z → IsCurve z.t z.m.changes ss) : Due o 8 [] (match o with | none => [-1] | some z => tellCurve (Vamvsb.fall none ss)) o
/-- what may be handed in -/
inductive CallIn : Int → List Int → Prop where
  | load (b : List UInt8) (h : b.length ≤ 8192) : CallIn 0 (b.map fun x => (x.toNat : Int))
  | shown : CallIn 1 []
  | terms (r ch : Int) : CallIn 2 [r, ch]
  | best : CallIn 3 []
  | steps : CallIn 4 []
  | few (n : Int) : CallIn 5 [n]
  | price (l : List Int) (h : l.length ≤ 2000) : CallIn 6 l
  | why (n : Int) : CallIn 7 [n]
  | curve : CallIn 8 []
def spAnswer (K : PySem.W.Frag) (c : Cs) : Sp := fun vs H Q _ => ∃ (kp la : Addr) (o : Vamvsb.Obj) (call : Int) (told : List Int), vs = [.ref kp, .int call, .ref la] ∧ KeepAt c H kp o ∧ SqL K H la (told.map V.int) ∧ CallIn call told ∧
  ∀ p H' ans o', But [kp] H H' → H p = none → H' p = some (.lst (intV ans)) → KeepAt c H' kp o' → Due o call told ans o' → Q (.ref p) H'
theorem ok_Keeper_answer (T : Txt K mg c) : MethOk P w K mg base CX0 9 c.cKeeper "answer" ["self", "call", "told"] (spAnswer K c) := by
  obtain ⟨f_Keeper_load, fd_Keeper_load, m_Keeper_load, b_Keeper_load, F_Keeper_load⟩ := ok_Keeper_load (P := P) (w := w) (base := base) T
  obtain ⟨f_Keeper_shown, fd_Keeper_shown, m_Keeper_shown, b_Keeper_shown, F_Keeper_shown⟩ := ok_Keeper_shown (P := P) (w := w) (base := base) T
  obtain ⟨f_Keeper_set_terms, fd_Keeper_set_terms, m_Keeper_set_terms, b_Keeper_set_terms, F_Keeper_set_terms⟩ := ok_Keeper_set_terms (P := P) (w := w) (base := base) T
  obtain ⟨f_Keeper_best, fd_Keeper_best, m_Keeper_best, b_Keeper_best, F_Keeper_best⟩ := ok_Keeper_best (P := P) (w := w) (base := base) T
  obtain ⟨f_Keeper_steps, fd_Keeper_steps, m_Keeper_steps, b_Keeper_steps, F_Keeper_steps⟩ := ok_Keeper_steps (P := P) (w := w) (base := base) T
  obtain ⟨f_Keeper_few, fd_Keeper_few, m_Keeper_few, b_Keeper_few, F_Keeper_few⟩ := ok_Keeper_few (P := P) (w := w) (base := base) T
  obtain ⟨f_Keeper_price, fd_Keeper_price, m_Keeper_price, b_Keeper_price, F_Keeper_price⟩ := ok_Keeper_price (P := P) (w := w) (base := base) T
  obtain ⟨f_Keeper_why, fd_Keeper_why, m_Keeper_why, b_Keeper_why, F_Keeper_why⟩ := ok_Keeper_why (P := P) (w := w) (base := base) T
  obtain ⟨f_Keeper_curve, fd_Keeper_curve, m_Keeper_curve, b_Keeper_curve, F_Keeper_curve⟩ := ok_Keeper_curve (P := P) (w := w) (base := base) T
  refine MethOk.make T.m_Keeper_answer s_Keeper_answer (fun vs H Q E h => ?_) fun f cdv A outer s H vs Q E hr h => ?_
  · obtain ⟨kp, la, o, call, told, rfl, hK, hl, hcall, q⟩ := h
    rfl
  · obtain ⟨kp, la, o, call, told, rfl, hK, hl, hcall, q⟩ := h
    refine ⟨_, (pss_cons (ps_if (pt_cmpR op_eq (pv 1) (pe_glob rfl T.c_LOAD.choose_spec.1 T.c_LOAD.choose_spec.2) (nomark _))
      (pss_one (ps_ret (pe_meth (pv 0) T.k_Keeper m_Keeper_load F_Keeper_load (hr.mono (by decide)) b_Keeper_load .nil pass0 (pa_cons (pv 2) pa_nil))))
      pss_nil)
      (pss_cons (ps_if (pt_cmp (pc_isN (pe_fld (pv 0) rfl)) rfl)
      (pss_one (ps_ret (pe_lst (pa_cons (pe_glob rfl T.c_NO_TABLE.choose_spec.1 T.c_NO_TABLE.choose_spec.2) pa_nil))))
      pss_nil)
      (pss_cons (ps_if (pt_cmpR op_eq (pv 1) (pe_glob rfl T.c_SHOWN.choose_spec.1 T.c_SHOWN.choose_spec.2) (nomark _))
      (pss_one (ps_ret (pe_meth0 (pv 0) T.k_Keeper m_Keeper_shown F_Keeper_shown (hr.mono (by decide)) b_Keeper_shown .nil pass0)))
      pss_nil)
      (pss_cons (ps_if (pt_cmpR op_eq (pv 1) (pe_glob rfl T.c_TERMS.choose_spec.1 T.c_TERMS.choose_spec.2) (nomark _))
      (pss_one (ps_ret (pe_meth (pv 0) T.k_Keeper m_Keeper_set_terms F_Keeper_set_terms (hr.mono (by decide)) b_Keeper_set_terms .nil pass0 (pa_cons (pe_ix ix_list (pv 2) pe_int (fun _ _ => rfl)) (pa_cons (pe_ix ix_list (pv 2) pe_int (fun _ _ => rfl)) pa_nil)))))
      pss_nil)
      (pss_cons (ps_if (pt_cmpR op_eq (pv 1) (pe_glob rfl T.c_BEST.choose_spec.1 T.c_BEST.choose_spec.2) (nomark _))
      (pss_one (ps_ret (pe_meth0 (pv 0) T.k_Keeper m_Keeper_best F_Keeper_best (hr.mono (by decide)) b_Keeper_best .nil pass0)))
      pss_nil)
      (pss_cons (ps_if (pt_cmpR op_eq (pv 1) (pe_glob rfl T.c_STEPS.choose_spec.1 T.c_STEPS.choose_spec.2) (nomark _))
      (pss_one (ps_ret (pe_meth0 (pv 0) T.k_Keeper m_Keeper_steps F_Keeper_steps (hr.mono (by decide)) b_Keeper_steps .nil pass0)))
      pss_nil)
      (pss_cons (ps_if (pt_cmpR op_eq (pv 1) (pe_glob rfl T.c_FEW.choose_spec.1 T.c_FEW.choose_spec.2) (nomark _))
      (pss_one (ps_ret (pe_meth (pv 0) T.k_Keeper m_Keeper_few F_Keeper_few (hr.mono (by decide)) b_Keeper_few .nil pass0 (pa_cons (pe_ix ix_list (pv 2) pe_int (fun _ _ => rfl)) pa_nil))))
      pss_nil)
      (pss_cons (ps_if (pt_cmpR op_eq (pv 1) (pe_glob rfl T.c_PRICE.choose_spec.1 T.c_PRICE.choose_spec.2) (nomark _))
      (pss_one (ps_ret (pe_meth (pv 0) T.k_Keeper m_Keeper_price F_Keeper_price (hr.mono (by decide)) b_Keeper_price .nil pass0 (pa_cons (pv 2) pa_nil))))
      pss_nil)
      (pss_cons (ps_if (pt_cmpR op_eq (pv 1) (pe_glob rfl T.c_WHY.choose_spec.1 T.c_WHY.choose_spec.2) (nomark _))
      (pss_one (ps_ret (pe_meth (pv 0) T.k_Keeper m_Keeper_why F_Keeper_why (hr.mono (by decide)) b_Keeper_why .nil pass0 (pa_cons (pe_ix ix_list (pv 2) pe_int (fun _ _ => rfl)) pa_nil))))
      pss_nil)
      (pss_one (ps_ret (pe_meth0 (pv 0) T.k_Keeper m_Keeper_curve F_Keeper_curve (hr.mono (by decide)) b_Keeper_curve .nil pass0)))))))))))), ?_⟩
    walk_at "rd"
    obtain ⟨dx, tv, gv, sv, r, ch, g1⟩ := hK.at_
    have hsz : sizeLine = 16777216 := rfl
    cases hcall with
    | load b hb =>
      refine rd_yes rfl ?_
      walk_at "rd"
      refine ⟨kp, dx, _, rfl, g1, rfl, ?_⟩
      walk_at "rd"
      refine ⟨kp, la, o, b, rfl, hK, by rw [List.map_map] at hl; exact hl, hb, fun p H1 b1 hp hl1 hK1 => ?_⟩
      exact q p H1 _ _ b1 hp hl1 hK1 (.load b hb)
    | shown =>
      refine rd_no (fun y => absurd (V.int.inj y) (by decide)) ?_
      walk_at "rd"
      rcases o with _ | z
      · obtain ⟨dx', g2⟩ := hK
        refine rd_fldAt g2 T.k_Keeper T.a_Keeper_table rfl ?_
        walk_at "rd"
        refine rd_yes rfl ?_
        walk_at "rd"
        refine ⟨(show 1 ≤ sizeLine by decide), fun p hp => ?_⟩
        have kn := Ex.new (o := .lst [.int (-1)]) hp
        exact q p _ [-1] none (fun b o _ e => kn b o e) hp (by rw [upd_same]; rfl) ⟨dx', kn _ _ g2⟩ .shown
      · obtain ⟨dx', tb, ca, ra, qa, ga, sv', g2, _⟩ := id hK
        refine rd_fldAt g2 T.k_Keeper T.a_Keeper_table rfl ?_
        walk_at "rd"
        refine rd_no (fun y => nomatch y) ?_
        walk_at "rd"
        refine rd_yes rfl ?_
        walk_at "rd"
        refine ⟨kp, dx', _, rfl, g2, rfl, ?_⟩
        refine ⟨kp, z, rfl, hK, fun p H1 b1 hp hl1 hK1 => ?_⟩
        exact q p H1 _ _ b1 hp hl1 hK1 .shown
    | terms r ch =>
      refine rd_no (fun y => absurd (V.int.inj y) (by decide)) ?_
      walk_at "rd"
      rcases o with _ | z
      · obtain ⟨dx', g2⟩ := hK
        refine rd_fldAt g2 T.k_Keeper T.a_Keeper_table rfl ?_
        walk_at "rd"
        refine rd_yes rfl ?_
        walk_at "rd"
        refine ⟨(show 1 ≤ sizeLine by decide), fun p hp => ?_⟩
        have kn := Ex.new (o := .lst [.int (-1)]) hp
        exact q p _ [-1] none (fun b o _ e => kn b o e) hp (by rw [upd_same]; rfl) ⟨dx', kn _ _ g2⟩ (.terms r ch)
      · obtain ⟨dx', tb, ca, ra, qa, ga, sv', g2, _⟩ := id hK
        refine rd_fldAt g2 T.k_Keeper T.a_Keeper_table rfl ?_
        walk_at "rd"
        refine rd_no (fun y => nomatch y) ?_
        walk_at "rd"
        refine rd_no (fun y => absurd (V.int.inj y) (by decide)) ?_
        walk_at "rd"
        refine rd_yes rfl ?_
        walk_at "rd"
        refine ⟨kp, dx', _, rfl, g2, rfl, ?_⟩
        walk_at "rd"
        refine ⟨la, _, 0, _, rfl, rfl, hl, rfl, ?_⟩
        walk_at "rd"
        refine ⟨la, _, 1, _, rfl, rfl, hl, rfl, ?_⟩
        walk_at "rd"
        refine ⟨kp, z, r, ch, rfl, hK, fun p H1 b1 hp hl1 hK1 => ?_⟩
        exact q p H1 _ _ b1 hp hl1 hK1 (.terms r ch)
    | best =>
      refine rd_no (fun y => absurd (V.int.inj y) (by decide)) ?_
      walk_at "rd"
      rcases o with _ | z
      · obtain ⟨dx', g2⟩ := hK
        refine rd_fldAt g2 T.k_Keeper T.a_Keeper_table rfl ?_
        walk_at "rd"
        refine rd_yes rfl ?_
        walk_at "rd"
        refine ⟨(show 1 ≤ sizeLine by decide), fun p hp => ?_⟩
        have kn := Ex.new (o := .lst [.int (-1)]) hp
        exact q p _ [-1] none (fun b o _ e => kn b o e) hp (by rw [upd_same]; rfl) ⟨dx', kn _ _ g2⟩ .best
      · obtain ⟨dx', tb, ca, ra, qa, ga, sv', g2, _⟩ := id hK
        refine rd_fldAt g2 T.k_Keeper T.a_Keeper_table rfl ?_
        walk_at "rd"
        refine rd_no (fun y => nomatch y) ?_
        walk_at "rd"
        refine rd_no (fun y => absurd (V.int.inj y) (by decide)) ?_
        walk_at "rd"
        refine rd_no (fun y => absurd (V.int.inj y) (by decide)) ?_
        walk_at "rd"
        refine rd_yes rfl ?_
        walk_at "rd"
        refine ⟨kp, dx', _, rfl, g2, rfl, ?_⟩
        refine ⟨kp, z, rfl, hK, fun p H1 b1 hp hl1 hK1 => ?_⟩
        exact q p H1 _ _ b1 hp hl1 hK1 .best
    | steps =>
      refine rd_no (fun y => absurd (V.int.inj y) (by decide)) ?_
      walk_at "rd"
      rcases o with _ | z
      · obtain ⟨dx', g2⟩ := hK
        refine rd_fldAt g2 T.k_Keeper T.a_Keeper_table rfl ?_
        walk_at "rd"
        refine rd_yes rfl ?_
        walk_at "rd"
        refine ⟨(show 1 ≤ sizeLine by decide), fun p hp => ?_⟩
        have kn := Ex.new (o := .lst [.int (-1)]) hp
        exact q p _ [-1] none (fun b o _ e => kn b o e) hp (by rw [upd_same]; rfl) ⟨dx', kn _ _ g2⟩ .steps
      · obtain ⟨dx', tb, ca, ra, qa, ga, sv', g2, _⟩ := id hK
        refine rd_fldAt g2 T.k_Keeper T.a_Keeper_table rfl ?_
        walk_at "rd"
        refine rd_no (fun y => nomatch y) ?_
        walk_at "rd"
        refine rd_no (fun y => absurd (V.int.inj y) (by decide)) ?_
        walk_at "rd"
        refine rd_no (fun y => absurd (V.int.inj y) (by decide)) ?_
        walk_at "rd"
        refine rd_no (fun y => absurd (V.int.inj y) (by decide)) ?_
        walk_at "rd"
        refine rd_yes rfl ?_
        walk_at "rd"
        refine ⟨kp, dx', _, rfl, g2, rfl, ?_⟩
        refine ⟨kp, z, rfl, hK, fun p H1 b1 hp hl1 hK1 => ?_⟩
        exact q p H1 _ _ b1 hp hl1 hK1 .steps
    | few n =>
      refine rd_no (fun y => absurd (V.int.inj y) (by decide)) ?_
      walk_at "rd"
      rcases o with _ | z
      · obtain ⟨dx', g2⟩ := hK
        refine rd_fldAt g2 T.k_Keeper T.a_Keeper_table rfl ?_
        walk_at "rd"
        refine rd_yes rfl ?_
        walk_at "rd"
        refine ⟨(show 1 ≤ sizeLine by decide), fun p hp => ?_⟩
        have kn := Ex.new (o := .lst [.int (-1)]) hp
        exact q p _ [-1] none (fun b o _ e => kn b o e) hp (by rw [upd_same]; rfl) ⟨dx', kn _ _ g2⟩ (.few n)
      · obtain ⟨dx', tb, ca, ra, qa, ga, sv', g2, _⟩ := id hK
        refine rd_fldAt g2 T.k_Keeper T.a_Keeper_table rfl ?_
        walk_at "rd"
        refine rd_no (fun y => nomatch y) ?_
        walk_at "rd"
        refine rd_no (fun y => absurd (V.int.inj y) (by decide)) ?_
        walk_at "rd"
        refine rd_no (fun y => absurd (V.int.inj y) (by decide)) ?_
        walk_at "rd"
        refine rd_no (fun y => absurd (V.int.inj y) (by decide)) ?_
        walk_at "rd"
        refine rd_no (fun y => absurd (V.int.inj y) (by decide)) ?_
        walk_at "rd"
        refine rd_yes rfl ?_
        walk_at "rd"
        refine ⟨kp, dx', _, rfl, g2, rfl, ?_⟩
        walk_at "rd"
        refine ⟨la, _, 0, _, rfl, rfl, hl, rfl, ?_⟩
        walk_at "rd"
        refine ⟨kp, z, n, rfl, hK, fun p H1 b1 hp hl1 hK1 => ?_⟩
        exact q p H1 _ _ b1 hp hl1 hK1 (.few n)
    | price _ hl2 =>
      refine rd_no (fun y => absurd (V.int.inj y) (by decide)) ?_
      walk_at "rd"
      rcases o with _ | z
      · obtain ⟨dx', g2⟩ := hK
        refine rd_fldAt g2 T.k_Keeper T.a_Keeper_table rfl ?_
        walk_at "rd"
        refine rd_yes rfl ?_
        walk_at "rd"
        refine ⟨(show 1 ≤ sizeLine by decide), fun p hp => ?_⟩
        have kn := Ex.new (o := .lst [.int (-1)]) hp
        exact q p _ [-1] none (fun b o _ e => kn b o e) hp (by rw [upd_same]; rfl) ⟨dx', kn _ _ g2⟩ (.price told hl2)
      · obtain ⟨dx', tb, ca, ra, qa, ga, sv', g2, _⟩ := id hK
        refine rd_fldAt g2 T.k_Keeper T.a_Keeper_table rfl ?_
        walk_at "rd"
        refine rd_no (fun y => nomatch y) ?_
        walk_at "rd"
        refine rd_no (fun y => absurd (V.int.inj y) (by decide)) ?_
        walk_at "rd"
        refine rd_no (fun y => absurd (V.int.inj y) (by decide)) ?_
        walk_at "rd"
        refine rd_no (fun y => absurd (V.int.inj y) (by decide)) ?_
        walk_at "rd"
        refine rd_no (fun y => absurd (V.int.inj y) (by decide)) ?_
        walk_at "rd"
        refine rd_no (fun y => absurd (V.int.inj y) (by decide)) ?_
        walk_at "rd"
        refine rd_yes rfl ?_
        walk_at "rd"
        refine ⟨kp, dx', _, rfl, g2, rfl, ?_⟩
        walk_at "rd"
        refine ⟨kp, la, z, told, rfl, hK, hl, hl2, fun p H1 b1 hp hl1 hK1 => ?_⟩
        exact q p H1 _ _ b1 hp hl1 hK1 (.price told hl2)
    | why n =>
      refine rd_no (fun y => absurd (V.int.inj y) (by decide)) ?_
      walk_at "rd"
      rcases o with _ | z
      · obtain ⟨dx', g2⟩ := hK
        refine rd_fldAt g2 T.k_Keeper T.a_Keeper_table rfl ?_
        walk_at "rd"
        refine rd_yes rfl ?_
        walk_at "rd"
        refine ⟨(show 1 ≤ sizeLine by decide), fun p hp => ?_⟩
        have kn := Ex.new (o := .lst [.int (-1)]) hp
        exact q p _ [-1] none (fun b o _ e => kn b o e) hp (by rw [upd_same]; rfl) ⟨dx', kn _ _ g2⟩ (.why n [] (fun _ e => by cases e))
      · obtain ⟨dx', tb, ca, ra, qa, ga, sv', g2, _⟩ := id hK
        refine rd_fldAt g2 T.k_Keeper T.a_Keeper_table rfl ?_
        walk_at "rd"
        refine rd_no (fun y => nomatch y) ?_
        walk_at "rd"
        refine rd_no (fun y => absurd (V.int.inj y) (by decide)) ?_
        walk_at "rd"
        refine rd_no (fun y => absurd (V.int.inj y) (by decide)) ?_
        walk_at "rd"
        refine rd_no (fun y => absurd (V.int.inj y) (by decide)) ?_
        walk_at "rd"
        refine rd_no (fun y => absurd (V.int.inj y) (by decide)) ?_
        walk_at "rd"
        refine rd_no (fun y => absurd (V.int.inj y) (by decide)) ?_
        walk_at "rd"
        refine rd_no (fun y => absurd (V.int.inj y) (by decide)) ?_
        walk_at "rd"
        refine rd_yes rfl ?_
        walk_at "rd"
        refine ⟨kp, dx', _, rfl, g2, rfl, ?_⟩
        walk_at "rd"
        refine ⟨la, _, 0, _, rfl, rfl, hl, rfl, ?_⟩
        walk_at "rd"
        refine ⟨kp, z, n, rfl, hK, fun p H1 rs b1 hp hl1 hK1 hrs => ?_⟩
        exact q p H1 _ _ b1 hp hl1 hK1 (.why n rs fun z' e => by cases e; exact hrs)
    | curve =>
      refine rd_no (fun y => absurd (V.int.inj y) (by decide)) ?_
      walk_at "rd"
      rcases o with _ | z
      · obtain ⟨dx', g2⟩ := hK
        refine rd_fldAt g2 T.k_Keeper T.a_Keeper_table rfl ?_
        walk_at "rd"
        refine rd_yes rfl ?_
        walk_at "rd"
        refine ⟨(show 1 ≤ sizeLine by decide), fun p hp => ?_⟩
        have kn := Ex.new (o := .lst [.int (-1)]) hp
        exact q p _ [-1] none (fun b o _ e => kn b o e) hp (by rw [upd_same]; rfl) ⟨dx', kn _ _ g2⟩ (.curve [] (fun _ e => by cases e))
      · obtain ⟨dx', tb, ca, ra, qa, ga, sv', g2, _⟩ := id hK
        refine rd_fldAt g2 T.k_Keeper T.a_Keeper_table rfl ?_
        walk_at "rd"
        refine rd_no (fun y => nomatch y) ?_
        walk_at "rd"
        refine rd_no (fun y => absurd (V.int.inj y) (by decide)) ?_
        walk_at "rd"
        refine rd_no (fun y => absurd (V.int.inj y) (by decide)) ?_
        walk_at "rd"
        refine rd_no (fun y => absurd (V.int.inj y) (by decide)) ?_
        walk_at "rd"
        refine rd_no (fun y => absurd (V.int.inj y) (by decide)) ?_
        walk_at "rd"
        refine rd_no (fun y => absurd (V.int.inj y) (by decide)) ?_
        walk_at "rd"
        refine rd_no (fun y => absurd (V.int.inj y) (by decide)) ?_
        walk_at "rd"
        refine rd_no (fun y => absurd (V.int.inj y) (by decide)) ?_
        walk_at "rd"
        refine ⟨kp, dx', _, rfl, g2, rfl, ?_⟩
        refine ⟨kp, z, rfl, hK, fun p H1 ss b1 hp hl1 hK1 hss => ?_⟩
        exact q p H1 _ _ b1 hp hl1 hK1 (.curve ss fun z' e => by cases e; exact hss)
end
end Bk
end
section
/-! the specification's own walks, over the plain lists -/
namespace Bk
open Vamvsa (Table Row Ask columnsOf)
theorem sum_ext {α : Type} {f g : α → Nat} {l : List α} (h : ∀ x ∈ l, f x = g x) : (l.map f).sum = (l.map g).sum := congrArg List.sum (List.map_congr_left h)
/-- which answers can be worked out -/
theorem bit_and {i : Nat} (g : Nat) : (g / 2 ^ i % 2 == 1) = g.testBit i := by
  rw [Nat.testBit_eq_decide_div_mod_eq]
  by_cases h : g / 2 ^ i % 2 = 1
  · rw [decide_eq_true h, h]; rfl
  · rw [decide_eq_false h]
    exact beq_eq_false_iff_ne.mpr h
theorem mem_cols {n g i : Nat} : i ∈ columnsOf n g ↔ i < n ∧ g.testBit i = true := by
  unfold Vamvsa.columnsOf
  rw [List.mem_filter, List.mem_range, bit_and]
theorem can_from {n g q : Nat} (hq : q < 2 ^ n) : Vamvsa.canFrom n g q = can g q := by
  rw [Bool.eq_iff_iff]
  unfold Vamvsa.canFrom can
  rw [List.all_eq_true, decide_eq_true_iff]
  constructor
  · intro h
    refine Nat.eq_of_testBit_eq fun i => ?_
    rw [Nat.testBit_and]
    cases hb : q.testBit i with
    | false => exact Bool.and_false _
    | true =>
      have hi : i < n := by
        rcases Nat.lt_or_ge i n with h | h
        · exact h
        · rw [Nat.testBit_lt_two_pow (Nat.lt_of_lt_of_le hq (Nat.pow_le_pow_right (by decide) h))] at hb
          cases hb
      have := h i (mem_cols.mpr ⟨hi, hb⟩)
      rw [List.contains_iff_mem] at this
      rw [(mem_cols.mp this).2]; rfl
  · intro h i hi
    obtain ⟨h1, h2⟩ := mem_cols.mp hi
    rw [List.contains_iff_mem]
    refine mem_cols.mpr ⟨h1, ?_⟩
    rw [← h, Nat.testBit_and] at h2
    cases hb : g.testBit i with
    | true => rfl
    | false => rw [hb] at h2; cases h2
/-! ### states -/
def codeK (k : List Nat) : Nat := (k.map fun g => 2 ^ g).sum
def stOf (t : Table) (k : List Nat) : Vamvsb.State := ⟨k, codeK k, linesK t k, t.asks.map fun a => rdq t k a.g⟩
def itOf (t : Table) (g : Nat) : Vamvsb.Item := ⟨g, Vamvsa.sizeOf_ t g, t.asks.map fun a => Vamvsa.canFrom (Vamvsa.width t) g a.g⟩
theorem items_eq (t : Table) : Vamvsb.items t = (List.range (gN t)).map (itOf t) := rfl
theorem first_eq (t : Table) : Vamvsb.firstState t = stOf t [] := rfl
theorem codeK_snoc (k : List Nat) (g : Nat) : codeK (k ++ [g]) = codeK k + 2 ^ g := by unfold codeK; simp
theorem add_eq {t : Table} (hok : TOk t) (k : List Nat) (g : Nat) : Vamvsb.add (stOf t k) (itOf t g) = stOf t (k ++ [g]) := by
  unfold Vamvsb.add stOf itOf
  congr 1
  · exact (codeK_snoc k g).symm
  · exact (linesK_snoc t k g).symm
  · rw [List.zip_map', List.map_map]
    refine List.map_congr_left fun a ha => ?_
    show (if Vamvsa.canFrom (Vamvsa.width t) g a.g = true then Nat.min (rdq t k a.g) (Vamvsa.sizeOf_ t g) else rdq t k a.g) = rdq t (k ++ [g]) a.g
    rw [show Vamvsa.canFrom (Vamvsa.width t) g a.g = can g a.g from can_from (hok.ask a ha).1, rdq_snoc]; rfl
theorem zip_self {α β : Type} (f : α → β) : ∀ l : List α, (l.map f).zip l = l.map fun a => (f a, a)
  | [] => rfl
  | x :: r => by rw [List.map_cons, List.zip_cons_cons, zip_self f r]; rfl
theorem sread_eq (t : Table) (k : List Nat) : Vamvsb.readCost t (stOf t k) = readK t k := by
  unfold Vamvsb.readCost
  show (((t.asks.map fun a => rdq t k a.g).zip t.asks).map _).sum = _
  rw [zip_self, List.map_map]; rfl
theorem upkeep_eq (m : Vamvsb.Terms) (k : List Nat) : Vamvsb.upkeep m k = 2 * k.length * m.changes := by
  show 2 * m.changes * k.length = _
  rw [Nat.mul_assoc, Nat.mul_comm m.changes, ← Nat.mul_assoc]
theorem cost_eq (t : Table) (m : Vamvsb.Terms) (k : List Nat) : Vamvsb.stateCost t m (stOf t k) = costK t m.changes k := by
  unfold Vamvsb.stateCost costK
  rw [sread_eq]
  show _ + Vamvsb.upkeep m k = _
  rw [upkeep_eq]
/-! ### all sets -/
def subs : List Nat → List (List Nat)
  | [] => [[]]
  | g :: r => subs r ++ (subs r).map fun l => g :: l
theorem walk_subs {A : Type} {t : Table} (hok : TOk t) (f : A → Vamvsb.State → A) : ∀ (gs k : List Nat) (a : A), Vamvsb.walk f (gs.map (itOf t)) (stOf t k) a = ((subs gs).map fun l => stOf t (k ++ l)).foldl f a
  | [], k, a => by
    show f a (stOf t k) = f a (stOf t (k ++ []))
    rw [List.append_nil]
  | g :: r, k, a => by
    show Vamvsb.walk f (r.map (itOf t)) (Vamvsb.add (stOf t k) (itOf t g)) (Vamvsb.walk f (r.map (itOf t)) (stOf t k) a) = _
    rw [add_eq hok, walk_subs hok f r, walk_subs hok f r]
    show _ = ((subs r ++ (subs r).map fun l => g :: l).map fun l => stOf t (k ++ l)).foldl f a
    rw [List.map_append, List.foldl_append, List.map_map]
    congr 1
    refine List.map_congr_left fun l _ => ?_
    show stOf t (k ++ [g] ++ l) = stOf t (k ++ (g :: l))
    rw [List.append_assoc]; rfl
theorem mem_subs : ∀ (gs l : List Nat), l ∈ subs gs ↔ l.Sublist gs
  | [], l => by
    show l ∈ [[]] ↔ _
    rw [List.mem_singleton, List.sublist_nil]
  | g :: r, l => by
    show l ∈ subs r ++ (subs r).map (fun l => g :: l) ↔ _
    rw [List.mem_append, List.mem_map, mem_subs r l, List.sublist_cons_iff]
    constructor
    · rintro (h | ⟨l', h, e⟩)
      · exact .inl h
      · exact .inr ⟨l', e.symm, (mem_subs r l').mp h⟩
    · rintro (h | ⟨l', e, h⟩)
      · exact .inl h
      · exact .inr ⟨l', (mem_subs r l').mpr h, e.symm⟩
theorem code_bits : ∀ {n c : Nat}, c < 2 ^ n → codeK (bitsTo c n) = c
  | 0, c, h => by
    have : c = 0 := by rw [Nat.pow_zero] at h; omega
    rw [this]; rfl
  | n + 1, c, h => by
    rcases Nat.lt_or_ge c (2 ^ n) with h' | h'
    · rw [bits_low h']
      exact code_bits h'
    · obtain ⟨d, rfl⟩ : ∃ d, c = 2 ^ n + d := ⟨c - 2 ^ n, by omega⟩
      have hd : d < 2 ^ n := by rw [Nat.pow_succ] at h; omega
      rw [bits_high hd, codeK_snoc, code_bits hd]
      omega
theorem sub_bits : ∀ {n : Nat} {l : List Nat}, l.Sublist (List.range n) → ∃ c, c < 2 ^ n ∧ l = bitsTo c n
  | 0, l, h => by
    rw [List.range_zero, List.sublist_nil] at h
    exact ⟨0, by decide, by rw [h]; rfl⟩
  | n + 1, l, h => by
    rw [List.range_succ, List.sublist_append_iff] at h
    obtain ⟨l1, l2, e, h1, h2⟩ := h
    obtain ⟨c, hc, e1⟩ := sub_bits h1
    have h3 : l2 = [] ∨ l2 = [n] := by
      rcases List.sublist_cons_iff.mp h2 with h | ⟨r, e, h⟩
      · exact .inl (List.sublist_nil.mp h)
      · rw [List.sublist_nil] at h
        exact .inr (by rw [e, h])
    rcases h3 with h3 | h3
    · exact ⟨c, by rw [Nat.pow_succ]; omega, by rw [e, h3, List.append_nil, bits_low hc, e1]⟩
    · exact ⟨2 ^ n + c, by rw [Nat.pow_succ]; omega, by rw [e, h3, bits_high hc, e1]⟩
/-- the sets' numbers, in the order in which they are gone through -/
def cds (n : Nat) : List Nat := (subs (List.range n)).map codeK
theorem bits_sub (c n : Nat) : (bitsTo c n).Sublist (List.range n) := List.filter_sublist
theorem mem_cds {n c : Nat} : c ∈ cds n ↔ c < 2 ^ n := by
  unfold cds
  rw [List.mem_map]
  constructor
  · rintro ⟨l, h, rfl⟩
    obtain ⟨c, hc, e⟩ := sub_bits ((mem_subs _ _).mp h)
    rw [e, code_bits hc]
    exact hc
  · intro h
    exact ⟨_, (mem_subs _ _).mpr (bits_sub c n), code_bits h⟩
theorem subs_cds (n : Nat) : subs (List.range n) = (cds n).map fun c => bitsTo c n := by
  unfold cds
  rw [List.map_map]
  conv => lhs; rw [← List.map_id (subs (List.range n))]
  refine List.map_congr_left fun l h => ?_
  obtain ⟨c, hc, e⟩ := sub_bits ((mem_subs _ _).mp h)
  show l = bitsTo (codeK l) n
  rw [e, code_bits hc]
def stC (t : Table) (c : Nat) : Vamvsb.State := stOf t (bitsTo c (gN t))
theorem stC_zero (t : Table) : stC t 0 = stOf t [] := by
  unfold stC
  congr 1
  unfold bitsTo
  refine List.filter_eq_nil_iff.mpr fun i _ => ?_
  rw [Nat.zero_div]; decide
theorem walk_all {A : Type} {t : Table} (hok : TOk t) (f : A → Vamvsb.State → A) (a : A) : Vamvsb.walk f (Vamvsb.items t) (Vamvsb.firstState t) a = (cds (gN t)).foldl (fun a c => f a (stC t c)) a := by
  rw [items_eq, first_eq, walk_subs hok f, subs_cds, List.map_map, List.foldl_map]; rfl
/-! ### the best set -/
/-- one set's price is at most another one's -/
def Le (C L : Nat → Nat) (x y : Nat) : Prop := C x < C y ∨ (C x = C y ∧ (L x < L y ∨ (L x = L y ∧ x ≤ y)))
theorem Le.refl (C L : Nat → Nat) (x : Nat) : Le C L x x := .inr ⟨rfl, .inr ⟨rfl, Nat.le_refl _⟩⟩
theorem Le.trans {C L : Nat → Nat} {x y z : Nat} (a : Le C L x y) (b : Le C L y z) : Le C L x z := by unfold Le at *; omega
theorem Le.one {C L : Nat → Nat} {x y : Nat} (a : Le C L x y) (b : Le C L y x) : x = y := by unfold Le at *; omega
theorem better_least (t : Table) (ch : Nat) : ∀ (ns : List Nat) (b : Nat), ns.Pairwise (· < ·) → (∀ x ∈ ns, b ≤ x) → ∃ r, ns.foldl (better t ch) (b, costK t ch (bitsTo b (gN t)), linesK t (bitsTo b (gN t))) = (r, costK t ch (bitsTo r (gN t)), linesK t (bitsTo r (gN t))) ∧ (r = b ∨ r ∈ ns) ∧
    Le (fun x => costK t ch (bitsTo x (gN t))) (fun x => linesK t (bitsTo x (gN t))) r b ∧ ∀ x ∈ ns, Le (fun x => costK t ch (bitsTo x (gN t))) (fun x => linesK t (bitsTo x (gN t))) r x
  | [], b, _, _ => ⟨b, rfl, .inl rfl, Le.refl _ _ b, fun x h => absurd h List.not_mem_nil⟩
  | n :: ns, b, hp, hb => by
    obtain ⟨h1, h2⟩ := List.pairwise_cons.mp hp
    have hbn := hb n List.mem_cons_self
    by_cases h : costK t ch (bitsTo n (gN t)) < costK t ch (bitsTo b (gN t)) ∨ (costK t ch (bitsTo n (gN t)) = costK t ch (bitsTo b (gN t)) ∧ linesK t (bitsTo n (gN t)) < linesK t (bitsTo b (gN t)))
    · obtain ⟨r, e, hr1, hr2, hr3⟩ := better_least t ch ns n h2 fun x hx => Nat.le_of_lt (h1 x hx)
      refine ⟨r, ?_, ?_, hr2.trans ?_, fun x hx => ?_⟩
      · rw [List.foldl_cons, ← e]
        unfold better
        rw [if_pos h]
      · rcases hr1 with e | e
        · exact .inr (by rw [e]; exact List.mem_cons_self)
        · exact .inr (List.mem_cons_of_mem _ e)
      · show _ ∨ _
        rcases h with h | ⟨h, h'⟩
        · exact .inl h
        · exact .inr ⟨h, .inl h'⟩
      · rcases List.mem_cons.mp hx with e | hx
        · rw [e]; exact hr2
        · exact hr3 x hx
    · obtain ⟨r, e, hr1, hr2, hr3⟩ := better_least t ch ns b h2 fun x hx => Nat.le_trans hbn (Nat.le_of_lt (h1 x hx))
      refine ⟨r, ?_, ?_, hr2, fun x hx => ?_⟩
      · rw [List.foldl_cons, ← e]
        unfold better
        rw [if_neg h]
      · rcases hr1 with e | e
        · exact .inl e
        · exact .inr (List.mem_cons_of_mem _ e)
      · rcases List.mem_cons.mp hx with e | hx
        · rw [e]
          refine hr2.trans ?_
          unfold Le
          show costK t ch (bitsTo b (gN t)) < costK t ch (bitsTo n (gN t)) ∨ (costK t ch (bitsTo b (gN t)) = costK t ch (bitsTo n (gN t)) ∧ (linesK t (bitsTo b (gN t)) < linesK t (bitsTo n (gN t)) ∨ (linesK t (bitsTo b (gN t)) = linesK t (bitsTo n (gN t)) ∧ b ≤ n)))
          omega
        · exact hr3 x hx
theorem bits_zero (n : Nat) : bitsTo 0 n = [] := by
  unfold bitsTo
  refine List.filter_eq_nil_iff.mpr fun i _ => ?_
  rw [Nat.zero_div]; decide
theorem least_is (t : Table) (ch : Nat) {p : Nat → Bool} : Le (fun x => costK t ch (bitsTo x (gN t))) (fun x => linesK t (bitsTo x (gN t))) (leastF t ch ((List.range (2 ^ gN t)).filter p)).1 0 ∧ (∀ x, x < 2 ^ gN t → p x = true → Le (fun x => costK t ch (bitsTo x (gN t))) (fun x => linesK t (bitsTo x (gN t))) (leastF t ch ((List.range (2 ^ gN t)).filter p)).1 x) ∧
    ((leastF t ch ((List.range (2 ^ gN t)).filter p)).1 = 0 ∨ ((leastF t ch ((List.range (2 ^ gN t)).filter p)).1 < 2 ^ gN t ∧ p (leastF t ch ((List.range (2 ^ gN t)).filter p)).1 = true)) := by
  obtain ⟨r, e, h1, h2, h3⟩ := better_least t ch ((List.range (2 ^ gN t)).filter p) 0 (List.pairwise_lt_range.filter _) fun x _ => Nat.zero_le _
  have e0 : leastF t ch ((List.range (2 ^ gN t)).filter p) = (r, costK t ch (bitsTo r (gN t)), linesK t (bitsTo r (gN t))) := by
    rw [← e]
    unfold leastF
    rw [bits_zero, show costK t ch [] = readK t [] by unfold costK; simp]; rfl
  rw [e0]
  refine ⟨h2, fun x hx hp => h3 x (List.mem_filter.mpr ⟨List.mem_range.mpr hx, hp⟩), ?_⟩
  rcases h1 with h | h
  · exact .inl h
  · obtain ⟨a, b⟩ := List.mem_filter.mp h
    exact .inr ⟨List.mem_range.mp a, b⟩
def prC (t : Table) (ch c : Nat) : Vamvsb.Price := ⟨costK t ch (bitsTo c (gN t)), linesK t (bitsTo c (gN t)), c, bitsTo c (gN t)⟩
theorem price_of {t : Table} {m : Vamvsb.Terms} {c : Nat} (h : c < 2 ^ gN t) : Vamvsb.priceOf t m (stC t c) = prC t m.changes c := by
  unfold Vamvsb.priceOf stC prC
  rw [cost_eq]
  show Vamvsb.Price.mk _ _ (codeK (bitsTo c (gN t))) _ = _
  rw [code_bits h]; rfl
theorem price_less (t : Table) (ch x y : Nat) : Vamvsb.priceLess (prC t ch x) (prC t ch y) = true ↔ ¬ Le (fun x => costK t ch (bitsTo x (gN t))) (fun x => linesK t (bitsTo x (gN t))) y x := by
  unfold Vamvsb.priceLess prC Le
  rw [Bool.or_eq_true, Bool.and_eq_true, Bool.or_eq_true, Bool.and_eq_true, decide_eq_true_iff, decide_eq_true_iff, decide_eq_true_iff, beq_iff_eq, beq_iff_eq]
  show (costK t ch (bitsTo x (gN t)) < costK t ch (bitsTo y (gN t)) ∨ costK t ch (bitsTo x (gN t)) = costK t ch (bitsTo y (gN t)) ∧ (linesK t (bitsTo x (gN t)) < linesK t (bitsTo y (gN t)) ∨ linesK t (bitsTo x (gN t)) = linesK t (bitsTo y (gN t)) ∧ x < y)) ↔
    ¬ (costK t ch (bitsTo y (gN t)) < costK t ch (bitsTo x (gN t)) ∨ (costK t ch (bitsTo y (gN t)) = costK t ch (bitsTo x (gN t)) ∧ (linesK t (bitsTo y (gN t)) < linesK t (bitsTo x (gN t)) ∨ (linesK t (bitsTo y (gN t)) = linesK t (bitsTo x (gN t)) ∧ y ≤ x))))
  omega
theorem lesser_eq (t : Table) (ch b c : Nat) : Vamvsb.lesser (prC t ch b) (prC t ch c) = prC t ch b ∧ Le (fun x => costK t ch (bitsTo x (gN t))) (fun x => linesK t (bitsTo x (gN t))) b c ∨
    Vamvsb.lesser (prC t ch b) (prC t ch c) = prC t ch c ∧ Le (fun x => costK t ch (bitsTo x (gN t))) (fun x => linesK t (bitsTo x (gN t))) c b := by
  unfold Vamvsb.lesser
  by_cases h : Vamvsb.priceLess (prC t ch c) (prC t ch b) = true
  · rw [if_pos h]
    refine .inr ⟨rfl, ?_⟩
    have := (price_less t ch c b).mp h
    unfold Le at *
    omega
  · rw [if_neg h]
    refine .inl ⟨rfl, ?_⟩
    exact Classical.not_not.mp fun n => h ((price_less t ch c b).mpr n)
theorem lesser_fold {t : Table} {m : Vamvsb.Terms} {bad : Vamvsb.State → Prop} [DecidablePred bad] : ∀ (cs : List Nat) (b : Nat), (∀ x ∈ cs, x < 2 ^ gN t) → ∃ r, cs.foldl (fun a c => if bad (stC t c) then a else Vamvsb.lesser a (Vamvsb.priceOf t m (stC t c))) (prC t m.changes b) = prC t m.changes r ∧
    (r = b ∨ (r ∈ cs ∧ ¬ bad (stC t r))) ∧ Le (fun x => costK t m.changes (bitsTo x (gN t))) (fun x => linesK t (bitsTo x (gN t))) r b ∧ ∀ x ∈ cs, ¬ bad (stC t x) → Le (fun x => costK t m.changes (bitsTo x (gN t))) (fun x => linesK t (bitsTo x (gN t))) r x
  | [], b, _ => ⟨b, rfl, .inl rfl, Le.refl _ _ b, fun x h => absurd h List.not_mem_nil⟩
  | c :: cs, b, hin => by
    have hc := hin c List.mem_cons_self
    have hin' : ∀ x ∈ cs, x < 2 ^ gN t := fun x hx => hin x (List.mem_cons_of_mem _ hx)
    rw [List.foldl_cons]
    by_cases hb : bad (stC t c)
    · rw [if_pos hb]
      obtain ⟨r, e, h1, h2, h3⟩ := lesser_fold (t := t) (m := m) (bad := bad) cs b hin'
      refine ⟨r, e, h1.imp id fun h => ⟨List.mem_cons_of_mem _ h.1, h.2⟩, h2, fun x hx hn => ?_⟩
      rcases List.mem_cons.mp hx with e | hx
      · rw [e] at hn; exact absurd hb hn
      · exact h3 x hx hn
    · rw [if_neg hb, price_of hc]
      rcases lesser_eq t m.changes b c with ⟨e, hl⟩ | ⟨e, hl⟩
      · rw [e]
        obtain ⟨r, e, h1, h2, h3⟩ := lesser_fold (t := t) (m := m) (bad := bad) cs b hin'
        refine ⟨r, e, h1.imp id fun h => ⟨List.mem_cons_of_mem _ h.1, h.2⟩, h2, fun x hx hn => ?_⟩
        rcases List.mem_cons.mp hx with e | hx
        · rw [e]; exact h2.trans hl
        · exact h3 x hx hn
      · rw [e]
        obtain ⟨r, e, h1, h2, h3⟩ := lesser_fold (t := t) (m := m) (bad := bad) cs c hin'
        refine ⟨r, e, .inr ?_, h2.trans hl, fun x hx hn => ?_⟩
        · rcases h1 with h | h
          · rw [h]; exact ⟨List.mem_cons_self, hb⟩
          · exact ⟨List.mem_cons_of_mem _ h.1, h.2⟩
        · rcases List.mem_cons.mp hx with e | hx
          · rw [e]; exact h2
          · exact h3 x hx hn
theorem best_eq {t : Table} (hok : TOk t) (m : Vamvsb.Terms) : Vamvsb.bestSet t m = prC t m.changes (leastF t m.changes (roomFor t m.room)).1 := by
  unfold Vamvsb.bestSet
  show Vamvsb.walk _ (Vamvsb.items t) (Vamvsb.firstState t) (Vamvsb.priceOf t m (Vamvsb.firstState t)) = _
  rw [walk_all hok, first_eq, ← stC_zero, price_of (Nat.two_pow_pos _)]
  obtain ⟨r, e, h1, h2, h3⟩ := lesser_fold (t := t) (m := m) (bad := fun s => m.room < s.room) (cds (gN t)) 0 fun x hx => mem_cds.mp hx
  refine e.trans ?_
  congr 1
  obtain ⟨g1, g2, g3⟩ := least_is t m.changes (p := fun n => decide (linesK t (bitsTo n (gN t)) ≤ m.room))
  refine Le.one (C := fun x => costK t m.changes (bitsTo x (gN t))) (L := fun x => linesK t (bitsTo x (gN t))) ?_ ?_
  · rcases g3 with g | ⟨g, g'⟩
    · rw [show (leastF t m.changes (roomFor t m.room)).1 = 0 from g]; exact h2
    · refine h3 _ (mem_cds.mpr g) ?_
      have := of_decide_eq_true g'
      exact Nat.not_lt.mpr this
  · rcases h1 with h | ⟨h, h'⟩
    · rw [h]; exact g1
    · exact g2 r (mem_cds.mp h) (decide_eq_true (Nat.not_lt.mp h'))
theorem few_eq {t : Table} (hok : TOk t) (n : Nat) : Vamvsb.bestFew t n = prC t 0 (leastF t 0 (fewOf t n)).1 := by
  unfold Vamvsb.bestFew
  show Vamvsb.walk _ (Vamvsb.items t) (Vamvsb.firstState t) (Vamvsb.priceOf t Vamvsb.free (Vamvsb.firstState t)) = _
  rw [walk_all hok, first_eq, ← stC_zero, price_of (Nat.two_pow_pos _)]
  obtain ⟨r, e, h1, h2, h3⟩ := lesser_fold (t := t) (m := Vamvsb.free) (bad := fun s => n < s.kept.length) (cds (gN t)) 0 fun x hx => mem_cds.mp hx
  refine e.trans ?_
  show prC t 0 r = _
  congr 1
  obtain ⟨g1, g2, g3⟩ := least_is t 0 (p := fun c => decide ((bitsTo c (gN t)).length ≤ n))
  refine Le.one (C := fun x => costK t 0 (bitsTo x (gN t))) (L := fun x => linesK t (bitsTo x (gN t))) ?_ ?_
  · rcases g3 with g | ⟨g, g'⟩
    · rw [show (leastF t 0 (fewOf t n)).1 = 0 from g]; exact h2
    · refine h3 _ (mem_cds.mpr g) ?_
      have := of_decide_eq_true g'
      exact Nat.not_lt.mpr this
  · rcases h1 with h | ⟨h, h'⟩
    · rw [h]; exact g1
    · exact g2 r (mem_cds.mp h) (decide_eq_true (Nat.not_lt.mp h'))
end Bk
end
section
namespace Bk
open Vamvsa (Table Row Ask columnsOf)
/-! ### step by step -/
def nbF (t : Table) (m : Vamvsb.Terms) (s : Vamvsb.State) (b : Option (Vamvsb.Item × Nat)) (x : Vamvsb.Item) : Option (Vamvsb.Item × Nat) :=
  if s.kept.contains x.g = true ∨ m.room < s.room + x.size then b else
    if Vamvsb.stateCost t m s ≤ Vamvsb.stateCost t m (Vamvsb.add s x) then b else match b with
      | none => some (x, Vamvsb.stateCost t m (Vamvsb.add s x))
      | some y => if Vamvsb.stateCost t m (Vamvsb.add s x) < y.2 then some (x, Vamvsb.stateCost t m (Vamvsb.add s x)) else some y
theorem nextBy_eq (t : Table) (m : Vamvsb.Terms) (is : List Vamvsb.Item) (s : Vamvsb.State) : Vamvsb.nextBy t m is s = (is.foldl (nbF t m s) none).map fun x => x.1 := rfl
def NRel (t : Table) (now : Nat) (b : Option (Vamvsb.Item × Nat)) (d : Option Nat × Nat) : Prop := (b = none ∧ d = (none, now)) ∨ ∃ g c, b = some (itOf t g, c) ∧ d = (some g, c) ∧ c < now
theorem n_rel {t : Table} (hok : TOk t) {m : Vamvsb.Terms} {k : List Nat} {b : Option (Vamvsb.Item × Nat)} {d : Option Nat × Nat} (h : NRel t (costK t m.changes k) b d) (g : Nat) : NRel t (costK t m.changes k) (nbF t m (stOf t k) b (itOf t g)) (stepOne t m.room m.changes k d g) := by
  unfold nbF stepOne
  rw [add_eq hok, cost_eq, cost_eq]
  show NRel t _ (if k.contains g = true ∨ m.room < linesK t k + sz t g then b else _) _
  have hcm : (k.contains g = true ∨ m.room < linesK t k + sz t g) ↔ (g ∈ k ∨ m.room < linesK t k + sz t g) := by rw [List.contains_iff_mem]
  by_cases h1 : g ∈ k ∨ m.room < linesK t k + sz t g
  · rw [if_pos (hcm.mpr h1), if_neg (fun n => h1.elim n.2.1 fun a => absurd n.1 (by omega))]
    exact h
  · rw [if_neg fun a => h1 (hcm.mp a)]
    have hg : g ∉ k := fun a => h1 (.inl a)
    have hr : sz t g + linesK t k ≤ m.room := by
      have : ¬ m.room < linesK t k + sz t g := fun a => h1 (.inr a)
      omega
    rcases h with ⟨rfl, rfl⟩ | ⟨g', c, rfl, rfl, hc⟩
    · by_cases h2 : costK t m.changes k ≤ costK t m.changes (k ++ [g])
      · rw [if_pos h2, if_neg (by intro n; have : costK t m.changes (k ++ [g]) < costK t m.changes k := n.2.2; omega)]
        exact .inl ⟨rfl, rfl⟩
      · rw [if_neg h2, if_pos ⟨hr, hg, Nat.not_le.mp h2⟩]
        exact .inr ⟨g, _, rfl, rfl, Nat.not_le.mp h2⟩
    · by_cases h2 : costK t m.changes k ≤ costK t m.changes (k ++ [g])
      · rw [if_pos h2, if_neg (by intro n; have : costK t m.changes (k ++ [g]) < c := n.2.2; omega)]
        exact .inr ⟨g', c, rfl, rfl, hc⟩
      · rw [if_neg h2]
        show NRel t _ (if costK t m.changes (k ++ [g]) < c then _ else _) _
        by_cases h3 : costK t m.changes (k ++ [g]) < c
        · rw [if_pos h3, if_pos ⟨hr, hg, h3⟩]
          exact .inr ⟨g, _, rfl, rfl, Nat.not_le.mp h2⟩
        · rw [if_neg h3, if_neg (fun n => h3 n.2.2)]
          exact .inr ⟨g', c, rfl, rfl, hc⟩
theorem n_fold {t : Table} (hok : TOk t) {m : Vamvsb.Terms} {k : List Nat} : ∀ (gs : List Nat) {b : Option (Vamvsb.Item × Nat)} {d : Option Nat × Nat}, NRel t (costK t m.changes k) b d → NRel t (costK t m.changes k) ((gs.map (itOf t)).foldl (nbF t m (stOf t k)) b) (gs.foldl (stepOne t m.room m.changes k) d)
  | [], _, _, h => h
  | g :: gs, _, _, h => n_fold hok gs (n_rel hok h g)
theorem nextBy_one {t : Table} (hok : TOk t) (m : Vamvsb.Terms) (k : List Nat) : Vamvsb.nextBy t m (Vamvsb.items t) (stOf t k) = (stepF t m.room m.changes k (gN t)).1.map (itOf t) := by
  rw [nextBy_eq, items_eq]
  have := n_fold hok (m := m) (k := k) (List.range (gN t)) (.inl ⟨rfl, rfl⟩)
  unfold stepF
  rcases this with ⟨h1, h2⟩ | ⟨g, c, h1, h2, _⟩
  · rw [h1, h2]; rfl
  · rw [h1, h2]; rfl
theorem stepsBy_eq {t : Table} (hok : TOk t) (m : Vamvsb.Terms) : ∀ (n : Nat) (k : List Nat), Vamvsb.stepsBy t m (Vamvsb.items t) n (stOf t k) = stOf t (stepsL t m.room m.changes n k)
  | 0, k => rfl
  | n + 1, k => by
    show (match Vamvsb.nextBy t m (Vamvsb.items t) (stOf t k) with | none => stOf t k | some x => Vamvsb.stepsBy t m (Vamvsb.items t) n (Vamvsb.add (stOf t k) x)) = stOf t (match (stepF t m.room m.changes k (gN t)).1 with | none => k | some g => stepsL t m.room m.changes n (k ++ [g]))
    rw [nextBy_one hok]
    cases (stepF t m.room m.changes k (gN t)).1 with
    | none => rfl
    | some g =>
      show Vamvsb.stepsBy t m (Vamvsb.items t) n (Vamvsb.add (stOf t k) (itOf t g)) = _
      rw [add_eq hok]
      exact stepsBy_eq hok m n (k ++ [g])
theorem steps_eq {t : Table} (hok : TOk t) (m : Vamvsb.Terms) : Vamvsb.steps t m = stOf t (stepsL t m.room m.changes (gN t) []) := by
  unfold Vamvsb.steps
  show Vamvsb.stepsBy t m (Vamvsb.items t) (Vamvsb.items t).length (Vamvsb.firstState t) = _
  rw [first_eq, stepsBy_eq hok, items_eq, List.length_map, List.length_range]
theorem sum_sub (f : Nat → Nat) : ∀ {l m : List Nat}, l.Nodup → (∀ x ∈ l, x ∈ m) → (l.map f).sum ≤ (m.map f).sum
  | [], _, _, _ => Nat.zero_le _
  | x :: l, m, nd, h => by
    obtain ⟨h1, h2⟩ := List.nodup_cons.mp nd
    have hp := (List.perm_cons_erase (h x List.mem_cons_self)).map f
    rw [List.Perm.sum_nat hp, List.map_cons, List.map_cons, List.sum_cons, List.sum_cons]
    have := sum_sub f h2 (m := m.erase x) fun y hy => (List.mem_erase_of_ne (show y ≠ x from fun e => h1 (by rw [← e]; exact hy))).mpr (h y (List.mem_cons_of_mem _ hy))
    omega
theorem sum_bound (f : Nat → Nat) (B : Nat) : ∀ l : List Nat, (∀ x ∈ l, f x ≤ B) → (l.map f).sum ≤ l.length * B
  | [], _ => Nat.zero_le _
  | x :: l, h => by
    have h1 := h x List.mem_cons_self
    have h2 := sum_bound f B l fun y hy => h y (List.mem_cons_of_mem _ hy)
    rw [List.map_cons, List.sum_cons, List.length_cons, Nat.succ_mul]
    omega
theorem room_bound {t : Table} (hok : TOk t) : allRoom t ≤ 1000000 := by
  have := sum_bound (sz t) 16 (List.range (gN t)) fun x _ => Nat.le_trans (sz_le hok x) hok.r16
  rw [List.length_range] at this
  have := gN_le hok
  show ((List.range (gN t)).map (sz t)).sum ≤ _
  omega
theorem step_room {t : Table} {R R' ch : Nat} {k : List Nat} (h : allRoom t ≤ R) (h' : allRoom t ≤ R') (nd : k.Nodup) (hk : ∀ x ∈ k, x < gN t) (b : Option Nat × Nat) {g : Nat} (hg : g < gN t) : stepOne t R ch k b g = stepOne t R' ch k b g := by
  unfold stepOne
  by_cases hm : g ∈ k
  · rw [if_neg (fun n => n.2.1 hm), if_neg (fun n => n.2.1 hm)]
  · have hs : ((g :: k).map (sz t)).sum ≤ ((List.range (gN t)).map (sz t)).sum := sum_sub _ (List.nodup_cons.mpr ⟨hm, nd⟩) fun x hx => by
      rcases List.mem_cons.mp hx with e | hx
      · rw [e]; exact List.mem_range.mpr hg
      · exact List.mem_range.mpr (hk x hx)
    rw [List.map_cons, List.sum_cons] at hs
    have e : sz t g + linesK t k ≤ allRoom t := hs
    by_cases hc : costK t ch (k ++ [g]) < b.2
    · rw [if_pos ⟨Nat.le_trans e h, hm, hc⟩, if_pos ⟨Nat.le_trans e h', hm, hc⟩]
    · rw [if_neg (fun n => hc n.2.2), if_neg (fun n => hc n.2.2)]
theorem stepF_room {t : Table} {R R' ch : Nat} {k : List Nat} (h : allRoom t ≤ R) (h' : allRoom t ≤ R') (nd : k.Nodup) (hk : ∀ x ∈ k, x < gN t) : ∀ n, n ≤ gN t → stepF t R ch k n = stepF t R' ch k n
  | 0, _ => rfl
  | n + 1, hn => by
    have := stepF_room (ch := ch) h h' nd hk n (by omega)
    unfold stepF at this ⊢
    rw [List.range_succ, List.foldl_append, List.foldl_append, this]
    exact step_room h h' nd hk _ hn
theorem stepF_new {t : Table} {room ch : Nat} {k : List Nat} : ∀ (n : Nat) {g : Nat}, (stepF t room ch k n).1 = some g → g ∉ k
  | 0, _, h => by cases h
  | n + 1, g, h => by
    have hst : stepF t room ch k (n + 1) = stepOne t room ch k (stepF t room ch k n) n := by
      unfold stepF
      rw [List.range_succ, List.foldl_append]; rfl
    rw [hst] at h
    unfold stepOne at h
    split at h
    · rename_i hc
      cases h
      exact hc.2.1
    · exact stepF_new n h
theorem stepsL_room {t : Table} {R R' ch : Nat} (h : allRoom t ≤ R) (h' : allRoom t ≤ R') : ∀ (n : Nat) (k : List Nat), k.Nodup → (∀ x ∈ k, x < gN t) → stepsL t R ch n k = stepsL t R' ch n k
  | 0, _, _, _ => rfl
  | n + 1, k, nd, hk => by
    show (match (stepF t R ch k (gN t)).1 with | none => k | some g => stepsL t R ch n (k ++ [g])) = (match (stepF t R' ch k (gN t)).1 with | none => k | some g => stepsL t R' ch n (k ++ [g]))
    rw [stepF_room h h' nd hk (gN t) (Nat.le_refl _)]
    cases e : (stepF t R' ch k (gN t)).1 with
    | none => rfl
    | some g =>
      have h1 := stepF_new _ e
      have h2 := stepF_some _ e
      refine stepsL_room h h' n (k ++ [g]) ?_ fun x hx => ?_
      · rw [List.nodup_append]
        refine ⟨nd, by simp, fun a ha b hb e => ?_⟩
        rw [List.mem_singleton] at hb
        exact h1 (by rw [← hb, ← e]; exact ha)
      · rcases List.mem_append.mp hx with hx | hx
        · exact hk x hx
        · rw [List.mem_singleton.mp hx]; exact h2
theorem greedy_eq {t : Table} (hok : TOk t) (n : Nat) : Vamvsb.greedyFew t n = stOf t (stepsL t (allRoom t) 0 n []) := by
  unfold Vamvsb.greedyFew
  rw [first_eq, stepsBy_eq hok]
  show stOf t (stepsL t 1000000 0 n []) = _
  rw [stepsL_room (room_bound hok) (Nat.le_refl _) n [] List.nodup_nil fun x h => absurd h List.not_mem_nil]
/-! ### what a question reads -/
theorem IsRd.same {t : Table} {k k' : List Nat} {q : Nat} {o : Option Nat} (h : ∀ g, g ∈ k ↔ g ∈ k') (r : IsRd t k q o) : IsRd t k' q o := by
  cases o with
  | none => exact fun g hg => r g ((h g).mpr hg)
  | some v => exact ⟨(h v).mp r.1, r.2.1, fun g hg => r.2.2 g ((h g).mpr hg)⟩
theorem rd_more {t : Table} {l : List Nat} {q n : Nat} {b : Option Nat} (hq : q < 2 ^ t.cols.length) (hl : ∀ x ∈ l, x < n) (r : IsRd t l q b) : IsRd t (l ++ [n]) q (Vamvsa.better t q b n) := by
  unfold Vamvsa.better
  rw [show Vamvsa.canFrom (Vamvsa.width t) n q = can n q from can_from hq]
  have hmem : ∀ g, g ∈ l ++ [n] ↔ g ∈ l ∨ g = n := fun g => by rw [List.mem_append, List.mem_singleton]
  cases hc : can n q with
  | false =>
    rw [if_pos rfl]
    cases b with
    | none =>
      intro g hg
      rcases (hmem g).mp hg with h | h
      · exact r g h
      · rw [h]; exact hc
    | some v =>
      refine ⟨(hmem v).mpr (.inl r.1), r.2.1, fun g hg hcg => ?_⟩
      rcases (hmem g).mp hg with h | h
      · exact r.2.2 g h hcg
      · rw [h, hc] at hcg; cases hcg
  | true =>
    rw [if_neg (by decide)]
    cases b with
    | none =>
      refine ⟨(hmem n).mpr (.inr rfl), hc, fun g hg hcg => ?_⟩
      rcases (hmem g).mp hg with h | h
      · rw [r g h] at hcg; cases hcg
      · rw [h]; exact .inr ⟨rfl, Nat.le_refl _⟩
    | some u =>
      show IsRd t _ q (if sz t n < sz t u then some n else some u)
      by_cases hs : sz t n < sz t u
      · rw [if_pos hs]
        refine ⟨(hmem n).mpr (.inr rfl), hc, fun g hg hcg => ?_⟩
        rcases (hmem g).mp hg with h | h
        · have := r.2.2 g h hcg
          omega
        · rw [h]; exact .inr ⟨rfl, Nat.le_refl _⟩
      · rw [if_neg hs]
        refine ⟨(hmem u).mpr (.inl r.1), r.2.1, fun g hg hcg => ?_⟩
        rcases (hmem g).mp hg with h | h
        · exact r.2.2 g h hcg
        · rw [h]
          have := hl u r.1
          omega
theorem rd_fold {t : Table} {q : Nat} (hq : q < 2 ^ t.cols.length) : ∀ (ns l : List Nat) (b : Option Nat), (l ++ ns).Pairwise (· < ·) → IsRd t l q b → IsRd t (l ++ ns) q (ns.foldl (Vamvsa.better t q) b)
  | [], l, b, _, r => by rw [List.append_nil]; exact r
  | n :: ns, l, b, hp, r => by
    have e : l ++ n :: ns = (l ++ [n]) ++ ns := by rw [List.append_assoc]; rfl
    rw [e] at hp ⊢
    refine rd_fold hq ns (l ++ [n]) _ hp (rd_more hq (fun x hx => ?_) r)
    exact (List.pairwise_append.mp (List.pairwise_append.mp hp).1).2.2 x hx n (List.mem_singleton.mpr rfl)
theorem mem_sorted {t : Table} {k : List Nat} {g : Nat} : g ∈ Vamvsa.sortedKept t k ↔ g < gN t ∧ g ∈ k := by
  unfold Vamvsa.sortedKept Vamvsa.groupings
  rw [List.mem_filter, List.mem_range, List.contains_iff_mem]; rfl
theorem reader_is {t : Table} {k : List Nat} (hk : ∀ g ∈ k, g < gN t) {q : Nat} (hq : q < 2 ^ t.cols.length) : IsRd t k q (Vamvsa.reader t k q) := by
  have h := rd_fold hq (Vamvsa.sortedKept t k) [] none (List.pairwise_lt_range.filter _) fun g hg => absurd hg List.not_mem_nil
  exact h.same fun g => by
    show g ∈ Vamvsa.sortedKept t k ↔ _
    rw [mem_sorted]
    exact ⟨fun h => h.2, fun h => ⟨hk g h, h⟩⟩
theorem costOf_eq {t : Table} (hok : TOk t) {k : List Nat} (hk : ∀ g ∈ k, g < gN t) {q : Nat} (hq : q < 2 ^ t.cols.length) : Vamvsa.costOf t k q = rdq t k q := by
  rw [← rd_size hok (reader_is hk hq)]
  unfold Vamvsa.costOf
  cases Vamvsa.reader t k q <;> rfl
theorem total_eq {t : Table} (hok : TOk t) {k : List Nat} (hk : ∀ g ∈ k, g < gN t) : Vamvsa.total t k = readK t k := by
  unfold Vamvsa.total readK
  exact sum_ext fun a ha => by rw [costOf_eq hok hk (hok.ask a ha).1]
theorem scost_eq {t : Table} (hok : TOk t) (m : Vamvsb.Terms) {k : List Nat} (hk : ∀ g ∈ k, g < gN t) : Vamvsb.cost t m k = costK t m.changes k := by
  unfold Vamvsb.cost costK
  rw [total_eq hok hk, upkeep_eq]
theorem readers_eq {t : Table} (hok : TOk t) {k : List Nat} (hk : ∀ g ∈ k, g < gN t) {g : Nat} {rs : List Nat} (h : readersL t k g rs) : Vamvsb.readersOf t k g = rs := by
  rw [h (fun i => if hi : i < t.asks.length then Vamvsa.reader t k (t.asks[i]).g else none) fun i hi => by
    rw [dif_pos hi]
    exact reader_is hk (hok.ask _ (List.getElem_mem hi)).1]
  unfold Vamvsb.readersOf
  refine List.filter_congr fun i hi => ?_
  have hi := List.mem_range.mp hi
  rw [dif_pos hi, List.getElem?_eq_getElem hi]
  show (Vamvsa.reader t k (t.asks[i]).g == some g) = _
  by_cases e : Vamvsa.reader t k (t.asks[i]).g = some g
  · rw [e, decide_eq_true rfl]; exact beq_self_eq_true _
  · rw [decide_eq_false e]
    exact beq_eq_false_iff_ne.mpr e
theorem sorted_self {t : Table} {p : Nat → Bool} : Vamvsa.sortedKept t ((List.range (gN t)).filter p) = (List.range (gN t)).filter p := by
  unfold Vamvsa.sortedKept
  show (List.range (gN t)).filter _ = _
  refine List.filter_congr fun g hg => ?_
  rw [Bool.eq_iff_iff, List.contains_iff_mem, List.mem_filter]
  exact ⟨fun h => h.2, fun h => ⟨hg, h⟩⟩
/-! ### more room -/
theorem into_ok (r c : Nat) : ∀ l : List (Nat × Nat), l.Pairwise (fun x y => x.1 < y.1) →
    (Vamvsb.intoCurve r c l).Pairwise (fun x y => x.1 < y.1) ∧ (∀ x ∈ Vamvsb.intoCurve r c l, (x ∈ l ∧ x.1 ≠ r) ∨ (x = (r, c) ∧ ∀ y ∈ l, y.1 = r → c ≤ y.2) ∨ (x ∈ l ∧ x.1 = r ∧ x.2 ≤ c)) ∧ (∀ y ∈ l, ∃ x ∈ Vamvsb.intoCurve r c l, x.1 = y.1) ∧ ∃ x ∈ Vamvsb.intoCurve r c l, x.1 = r
  | [], _ => by
    show [(r, c)].Pairwise _ ∧ (∀ x ∈ [(r, c)], _) ∧ _ ∧ ∃ x ∈ [(r, c)], x.1 = r
    refine ⟨List.pairwise_singleton _ _, fun x hx => ?_, fun y h => absurd h List.not_mem_nil, _, List.mem_singleton.mpr rfl, rfl⟩
    exact .inr (.inl ⟨List.mem_singleton.mp hx, fun y h => absurd h List.not_mem_nil⟩)
  | x :: l, hp => by
    obtain ⟨h1, h2⟩ := List.pairwise_cons.mp hp
    have e : Vamvsb.intoCurve r c (x :: l) = if r < x.1 then (r, c) :: x :: l else if r = x.1 then (x.1, Nat.min x.2 c) :: l else x :: Vamvsb.intoCurve r c l := rfl
    rw [e]
    by_cases c1 : r < x.1
    · rw [if_pos c1]
      have hlt : ∀ y ∈ x :: l, r < y.1 := fun y hy => by
        rcases List.mem_cons.mp hy with e | hy
        · rw [e]; exact c1
        · exact Nat.lt_trans c1 (h1 y hy)
      refine ⟨List.pairwise_cons.mpr ⟨hlt, hp⟩, fun y hy => ?_, fun y hy => ⟨y, List.mem_cons_of_mem _ hy, rfl⟩, _, List.mem_cons_self, rfl⟩
      rcases List.mem_cons.mp hy with e | hy
      · exact .inr (.inl ⟨e, fun z hz he => by have := hlt z hz; omega⟩)
      · exact .inl ⟨hy, by have := hlt y hy; omega⟩
    · rw [if_neg c1]
      by_cases c2 : r = x.1
      · rw [if_pos c2]
        refine ⟨List.pairwise_cons.mpr ⟨h1, h2⟩, fun y hy => ?_, fun y hy => ?_, _, List.mem_cons_self, c2.symm⟩
        · rcases List.mem_cons.mp hy with e | hy
          · rcases Nat.le_total x.2 c with hl | hl
            · have : Nat.min x.2 c = x.2 := Nat.min_eq_left hl
              rw [this] at e
              exact .inr (.inr ⟨by rw [e]; exact List.mem_cons_self, by rw [e]; exact c2.symm, by rw [e]; exact hl⟩)
            · have : Nat.min x.2 c = c := Nat.min_eq_right hl
              rw [this, ← c2] at e
              refine .inr (.inl ⟨e, fun z hz he => ?_⟩)
              rcases List.mem_cons.mp hz with e | hz
              · rw [e]; exact hl
              · have := h1 z hz; omega
          · exact .inl ⟨List.mem_cons_of_mem _ hy, by have := h1 y hy; omega⟩
        · rcases List.mem_cons.mp hy with e | hy
          · exact ⟨_, List.mem_cons_self, by rw [e]⟩
          · exact ⟨y, List.mem_cons_of_mem _ hy, rfl⟩
      · rw [if_neg c2]
        obtain ⟨i1, i2, i3, y0, hy0, ey0⟩ := into_ok r c l h2
        refine ⟨List.pairwise_cons.mpr ⟨fun y hy => ?_, i1⟩, fun y hy => ?_, fun y hy => ?_, y0, List.mem_cons_of_mem _ hy0, ey0⟩
        · rcases i2 y hy with ⟨a, _⟩ | ⟨a, _⟩ | ⟨a, _⟩
          · exact h1 y a
          · rw [a]
            show x.1 < r
            omega
          · exact h1 y a
        · rcases List.mem_cons.mp hy with e | hy
          · exact .inl ⟨by rw [e]; exact List.mem_cons_self, by rw [e]; exact fun z => c2 z.symm⟩
          · rcases i2 y hy with ⟨a, b⟩ | ⟨a, b⟩ | ⟨a, b⟩
            · exact .inl ⟨List.mem_cons_of_mem _ a, b⟩
            · refine .inr (.inl ⟨a, fun z hz he => ?_⟩)
              rcases List.mem_cons.mp hz with e | hz
              · rw [e] at he; exact absurd he.symm c2
              · exact b z hz he
            · exact .inr (.inr ⟨List.mem_cons_of_mem _ a, b⟩)
        · rcases List.mem_cons.mp hy with e | hy
          · exact ⟨x, List.mem_cons_self, by rw [e]⟩
          · obtain ⟨z, hz, ez⟩ := i3 y hy
            exact ⟨z, List.mem_cons_of_mem _ hz, ez⟩
structure Cv (L C : Nat → Nat) (cs : List Nat) (acc : List (Nat × Nat)) : Prop where
  s : acc.Pairwise fun x y => x.1 < y.1
  a : ∀ x ∈ acc, (∃ c ∈ cs, L c = x.1 ∧ C c = x.2) ∧ ∀ c ∈ cs, L c = x.1 → x.2 ≤ C c
  b : ∀ c ∈ cs, ∃ x ∈ acc, x.1 = L c
theorem Cv.more {L C : Nat → Nat} {cs : List Nat} {acc : List (Nat × Nat)} (h : Cv L C cs acc) (n : Nat) : Cv L C (cs ++ [n]) (Vamvsb.intoCurve (L n) (C n) acc) := by
  obtain ⟨i1, i2, i3, y0, hy0, ey0⟩ := into_ok (L n) (C n) acc h.s
  have hmem : ∀ g, g ∈ cs ++ [n] ↔ g ∈ cs ∨ g = n := fun g => by rw [List.mem_append, List.mem_singleton]
  refine ⟨i1, fun x hx => ?_, fun c hc => ?_⟩
  · rcases i2 x hx with ⟨a, b⟩ | ⟨a, b⟩ | ⟨a, b, d⟩
    · obtain ⟨⟨c, hc, e1, e2⟩, h2⟩ := h.a x a
      refine ⟨⟨c, (hmem c).mpr (.inl hc), e1, e2⟩, fun k hk ek => ?_⟩
      rcases (hmem k).mp hk with hk | hk
      · exact h2 k hk ek
      · rw [hk] at ek; exact absurd ek.symm b
    · rw [a]
      refine ⟨⟨n, (hmem n).mpr (.inr rfl), rfl, rfl⟩, fun k hk ek => ?_⟩
      show C n ≤ C k
      have ek : L k = L n := ek
      rcases (hmem k).mp hk with hk | hk
      · obtain ⟨y, hy, ey⟩ := h.b k hk
        exact Nat.le_trans (b y hy (ey.trans ek)) ((h.a y hy).2 k hk ey.symm)
      · rw [hk]; exact Nat.le_refl _
    · obtain ⟨⟨c, hc, e1, e2⟩, h2⟩ := h.a x a
      refine ⟨⟨c, (hmem c).mpr (.inl hc), e1, e2⟩, fun k hk ek => ?_⟩
      rcases (hmem k).mp hk with hk | hk
      · exact h2 k hk ek
      · rw [hk]; exact d
  · rcases (hmem c).mp hc with hc | hc
    · obtain ⟨y, hy, ey⟩ := h.b c hc
      obtain ⟨z, hz, ez⟩ := i3 y hy
      exact ⟨z, hz, ez.trans ey⟩
    · rw [hc]; exact ⟨y0, hy0, ey0⟩
theorem Cv.fold {L C : Nat → Nat} : ∀ (ns cs : List Nat) (acc : List (Nat × Nat)), Cv L C cs acc → Cv L C (cs ++ ns) (ns.foldl (fun l c => Vamvsb.intoCurve (L c) (C c) l) acc)
  | [], cs, acc, h => by rw [List.append_nil]; exact h
  | n :: ns, cs, acc, h => by
    have := Cv.fold ns (cs ++ [n]) _ (h.more n)
    rw [List.append_assoc] at this
    exact this
theorem sorted_pairs : ∀ {a b : List (Nat × Nat)}, a.Pairwise (fun x y => x.1 < y.1) → b.Pairwise (fun x y => x.1 < y.1) → (∀ x, x ∈ a ↔ x ∈ b) → a = b
  | [], [], _, _, _ => rfl
  | [], y :: b, _, _, h => absurd ((h y).mpr List.mem_cons_self) List.not_mem_nil
  | x :: a, [], _, _, h => absurd ((h x).mp List.mem_cons_self) List.not_mem_nil
  | x :: a, y :: b, ha, hb, h => by
    obtain ⟨a1, a2⟩ := List.pairwise_cons.mp ha
    obtain ⟨b1, b2⟩ := List.pairwise_cons.mp hb
    have e : x = y := by
      rcases List.mem_cons.mp ((h x).mp List.mem_cons_self) with e | hx
      · exact e
      · rcases List.mem_cons.mp ((h y).mpr List.mem_cons_self) with e | hy
        · exact e.symm
        · have := b1 x hx
          have := a1 y hy
          omega
    subst e
    congr 1
    refine sorted_pairs a2 b2 fun z => ⟨fun hz => ?_, fun hz => ?_⟩
    · rcases List.mem_cons.mp ((h z).mp (List.mem_cons_of_mem _ hz)) with e | hz'
      · have := a1 z hz; rw [e] at this; omega
      · exact hz'
    · rcases List.mem_cons.mp ((h z).mpr (List.mem_cons_of_mem _ hz)) with e | hz'
      · have := b1 z hz; rw [e] at this; omega
      · exact hz'
theorem curve_eq {t : Table} (hok : TOk t) (m : Vamvsb.Terms) {ss : List (Nat × Nat)} (h : IsCurve t m.changes ss) : Vamvsb.curve t m = Vamvsb.fall none ss := by
  unfold Vamvsb.curve
  rw [walk_all hok]
  congr 1
  have hf : (cds (gN t)).foldl (fun l c => Vamvsb.intoCurve (stC t c).room (Vamvsb.stateCost t m (stC t c)) l) [] = (cds (gN t)).foldl (fun l c => Vamvsb.intoCurve (linesK t (bitsTo c (gN t))) (costK t m.changes (bitsTo c (gN t))) l) [] := by
    congr 1
    funext l c
    unfold stC
    rw [cost_eq]; rfl
  refine hf.trans ?_
  have hcv := Cv.fold (L := fun c => linesK t (bitsTo c (gN t))) (C := fun c => costK t m.changes (bitsTo c (gN t))) (cds (gN t)) [] [] ⟨List.Pairwise.nil, fun x h => absurd h List.not_mem_nil, fun x h => absurd h List.not_mem_nil⟩
  rw [List.nil_append] at hcv
  refine sorted_pairs hcv.s h.1 fun x => ?_
  rw [h.2]
  constructor
  · intro hx
    obtain ⟨⟨c, hc, e1, e2⟩, h2⟩ := hcv.a x hx
    exact ⟨⟨c, mem_cds.mp hc, e1, e2⟩, fun k hk ek => h2 k (mem_cds.mpr hk) ek⟩
  · rintro ⟨⟨k, hk, e1, e2⟩, h2⟩
    obtain ⟨y, hy, ey⟩ := hcv.b k (mem_cds.mpr hk)
    obtain ⟨⟨c, hc, f1, f2⟩, h3⟩ := hcv.a y hy
    have g1 : y.1 = x.1 := ey.trans e1
    have g2 : x.2 ≤ costK t m.changes (bitsTo c (gN t)) := h2 c (mem_cds.mp hc) (f1.trans g1)
    have g3 : y.2 ≤ costK t m.changes (bitsTo k (gN t)) := h3 k (mem_cds.mpr hk) ey.symm
    have g4 : y.2 = x.2 := by
      have f2 : costK t m.changes (bitsTo c (gN t)) = y.2 := f2
      omega
    have : y = x := Prod.ext g1 g4
    rw [← this]; exact hy
end Bk
end
section
/-! each call's due answer is the specification's -/
namespace Bk
open Vamvsa (Table Row Ask columnsOf)
/-- a call as the list has it -/
def encC (x : Int × List Int) : List Int := if x.1 = 0 ∨ x.1 = 6 then x.1 :: (x.2.length : Int) :: x.2 else x.1 :: x.2
/-- a call as the specification has it -/
def rowC (x : Int × List Int) : List (List Int) := if x.1 = 0 ∨ x.1 = 6 then [[x.1], x.2] else [x.1 :: x.2]
def toldOut (o : Vamvsb.Obj) (cs : List (Int × List Int)) : List Int := PyFlat.told (PyFlat.played VamvsbNeutral.step o (cs.map rowC))
theorem step_of {o : Vamvsb.Obj} {rows : List (List Int)} {k : Vamvsb.Call} (h : VamvsbNeutral.callOf rows = some k) {o' : Vamvsb.Obj} {a : VamvsBase.Answer} (e : Vamvsb.step o k = (o', a)) {ans : List Int} (ea : VamvsbNeutral.encode a = ans) : VamvsbNeutral.step o rows = (o', ans) := by
  unfold VamvsbNeutral.step
  rw [h]
  show ((Vamvsb.step o k).1, VamvsbNeutral.encode (Vamvsb.step o k).2) = _
  rw [e, ← ea]
theorem bytes_back (b : List UInt8) : VamvsbNeutral.bytesOf (b.map fun x => (x.toNat : Int)) = b := by
  unfold VamvsbNeutral.bytesOf
  rw [List.map_map]
  conv => rhs; rw [← List.map_id b]
  exact List.map_congr_left fun x _ => UInt8.ofNat_toNat
theorem bytes_yes (b : List UInt8) : NeutralIO.bytes (b.map fun x => (x.toNat : Int)) = true := by
  unfold NeutralIO.bytes
  rw [List.all_eq_true]
  intro x hx
  obtain ⟨y, _, rfl⟩ := List.mem_map.mp hx
  have := y.toNat_lt
  rw [Bool.and_eq_true, decide_eq_true_iff, decide_eq_true_iff]
  omega
theorem row_no {call : Int} {told : List Int} (h : ¬ (call = 0 ∨ call = 6)) : rowC (call, told) = [call :: told] := if_neg h
theorem row_yes {call : Int} {told : List Int} (h : call = 0 ∨ call = 6) : rowC (call, told) = [[call], told] := if_pos h
theorem index_iff {g : Int} {n : Nat} : VamvsBase.index g n = if 0 ≤ g ∧ g < (n : Int) then some g.toNat else none := rfl
theorem bestL_in {z : Vamvsb.Held} : ∀ g ∈ bestL z, g < gN z.t := fun g hg => List.mem_range.mp (List.mem_filter.mp hg).1
theorem best_kept {z : Vamvsb.Held} (hok : TOk z.t) : Vamvsb.bestSet z.t z.m = ⟨costK z.t z.m.changes (bestL z), linesK z.t (bestL z), bestC z, bestL z⟩ := best_eq hok z.m
theorem due_load (o : Vamvsb.Obj) (b : List UInt8) : VamvsbNeutral.step o (rowC (0, b.map fun x => (x.toNat : Int))) = (loadObj o b, tellLoad b) := by
  rw [row_yes (.inl rfl)]
  have hc : VamvsbNeutral.callOf [[0], b.map fun x => (x.toNat : Int)] = some (.load b) := by
    show (if NeutralIO.bytes (b.map fun x => (x.toNat : Int)) = true then some (Vamvsb.Call.load (VamvsbNeutral.bytesOf (b.map fun x => (x.toNat : Int)))) else none) = _
    rw [if_pos (bytes_yes b), bytes_back]
  unfold loadObj tellLoad
  cases e : Vamvsa.read b with
  | error f =>
    refine step_of hc (a := VamvsBase.faulty f) ?_ rfl
    show (match Vamvsa.read b with | .ok t => ((some ⟨t, Vamvsb.free⟩ : Vamvsb.Obj), (⟨1, Vamvsb.nats [Vamvsa.width t, t.rows.length, t.asks.length]⟩ : VamvsBase.Answer)) | .error f => (o, VamvsBase.faulty f)) = _
    rw [e]
  | ok t =>
    refine step_of hc (a := ⟨1, Vamvsb.nats [Vamvsa.width t, t.rows.length, t.asks.length]⟩) ?_ rfl
    show (match Vamvsa.read b with | .ok t => ((some ⟨t, Vamvsb.free⟩ : Vamvsb.Obj), (⟨1, Vamvsb.nats [Vamvsa.width t, t.rows.length, t.asks.length]⟩ : VamvsBase.Answer)) | .error f => (o, VamvsBase.faulty f)) = _
    rw [e]; rfl
theorem due_few {z : Vamvsb.Held} (hok : TOk z.t) (n : Int) : VamvsbNeutral.encode (Vamvsb.looked z (.few n)) = tellFews z n := by
  show VamvsbNeutral.encode (if n < 0 ∨ Vamvsb.FEW < n then VamvsBase.one (-3) else _) = _
  unfold tellFews
  by_cases h : n < 0 ∨ (4 : Int) < n
  · rw [if_pos (show n < 0 ∨ Vamvsb.FEW < n from h), if_pos h]; rfl
  · rw [if_neg (show ¬ (n < 0 ∨ Vamvsb.FEW < n) from h), if_neg h]
    show VamvsbNeutral.encode ⟨((Vamvsb.bestFew z.t n.toNat).cost : Int), Vamvsb.listRow (Vamvsb.bestFew z.t n.toNat).kept ++ ((Vamvsb.readCost z.t (Vamvsb.greedyFew z.t n.toNat) : Int) :: Vamvsb.listRow (Vamvsb.greedyFew z.t n.toNat).kept)⟩ = _
    rw [few_eq hok, greedy_eq hok, sread_eq]
    have e : costK z.t 0 (fewBest z.t n.toNat) = readK z.t (fewBest z.t n.toNat) := by unfold costK; rw [Nat.mul_zero, Nat.add_zero]
    show ((costK z.t 0 (fewBest z.t n.toNat) : Nat) : Int) :: _ = _
    rw [e]; rfl
theorem due_price {z : Vamvsb.Held} (hok : TOk z.t) (l : List Int) : VamvsbNeutral.encode (Vamvsb.looked z (.price l)) = tellPrice z l := by
  show VamvsbNeutral.encode (match Vamvsb.keptOf z.t l with | none => VamvsBase.one (-2) | some k => ⟨(Vamvsb.cost z.t z.m k : Int), Vamvsb.nats [Vamvsa.room z.t k, Vamvsa.total z.t k, Vamvsb.upkeep z.m k, if Vamvsa.room z.t k ≤ z.m.room then 1 else 0]⟩) = _
  have hk : Vamvsb.keptOf z.t l = if inAll z.t l then some (toldK z.t l) else none := by
    unfold Vamvsb.keptOf
    by_cases h : inAll z.t l
    · rw [if_pos h, if_neg]
      · refine congrArg some ?_
        unfold toldK
        show (List.range (gN z.t)).filter _ = _
        refine List.filter_congr fun g _ => ?_
        rw [Bool.eq_iff_iff, List.contains_iff_mem, decide_eq_true_iff]
      · intro n
        obtain ⟨x, hx, e⟩ := List.any_eq_true.mp n
        rw [show VamvsBase.index x (2 ^ Vamvsa.width z.t) = some x.toNat from if_pos (h x hx)] at e
        cases e
    · rw [if_neg h, if_pos]
      refine Classical.byContradiction fun n => h fun x hx => ?_
      refine Classical.byContradiction fun e => n ?_
      rw [List.any_eq_true]
      exact ⟨x, hx, by rw [show VamvsBase.index x (2 ^ Vamvsa.width z.t) = none from if_neg e]; rfl⟩
  rw [hk]
  unfold tellPrice
  by_cases h : inAll z.t l
  · rw [if_pos h, if_pos h]
    show VamvsbNeutral.encode ⟨(Vamvsb.cost z.t z.m (toldK z.t l) : Int), Vamvsb.nats [Vamvsa.room z.t (toldK z.t l), Vamvsa.total z.t (toldK z.t l), Vamvsb.upkeep z.m (toldK z.t l), if Vamvsa.room z.t (toldK z.t l) ≤ z.m.room then 1 else 0]⟩ = _
    have hg := (told_gs hok l).2
    have hr : Vamvsa.room z.t (toldK z.t l) = linesK z.t (toldK z.t l) := by
      unfold Vamvsa.room
      rw [show Vamvsa.sortedKept z.t (toldK z.t l) = toldK z.t l from sorted_self]; rfl
    rw [scost_eq hok z.m hg, total_eq hok hg, upkeep_eq, hr]; rfl
  · rw [if_neg h, if_neg h]; rfl
theorem due_why {z : Vamvsb.Held} (hok : TOk z.t) (n : Int) (rs : List Nat) (h : 0 ≤ n → n < ((gN z.t : Nat) : Int) → n.toNat ∈ bestL z → readersL z.t (bestL z) n.toNat rs) : VamvsbNeutral.encode (Vamvsb.looked z (.why n)) = tellWhy z n rs := by
  show VamvsbNeutral.encode (match VamvsBase.index n (gN z.t) with
    | none => VamvsBase.one (-2)
    | some x => if (Vamvsb.bestSet z.t z.m).kept.contains x = true then ⟨1, ((Vamvsb.cost z.t z.m ((Vamvsb.bestSet z.t z.m).kept.filter fun v => v != x) : Int) - ((Vamvsb.bestSet z.t z.m).cost : Int)) :: Vamvsb.listRow (Vamvsb.readersOf z.t (Vamvsb.bestSet z.t z.m).kept x)⟩ else ⟨0, [(Vamvsb.cost z.t z.m ((Vamvsb.bestSet z.t z.m).kept ++ [x]) : Int) - ((Vamvsb.bestSet z.t z.m).cost : Int), if (Vamvsb.bestSet z.t z.m).room + Vamvsa.sizeOf_ z.t x ≤ z.m.room then 1 else 0]⟩) = _
  rw [index_iff]
  unfold tellWhy
  by_cases hn : 0 ≤ n ∧ n < ((gN z.t : Nat) : Int)
  · rw [if_pos hn, if_pos hn, best_kept hok]
    show VamvsbNeutral.encode (if (bestL z).contains n.toNat = true then ⟨1, ((Vamvsb.cost z.t z.m ((bestL z).filter fun v => v != n.toNat) : Int) - (costK z.t z.m.changes (bestL z) : Int)) :: Vamvsb.listRow (Vamvsb.readersOf z.t (bestL z) n.toNat)⟩ else ⟨0, [(Vamvsb.cost z.t z.m (bestL z ++ [n.toNat]) : Int) - (costK z.t z.m.changes (bestL z) : Int), if linesK z.t (bestL z) + sz z.t n.toNat ≤ z.m.room then 1 else 0]⟩) = _
    by_cases hm : n.toNat ∈ bestL z
    · rw [if_pos (List.contains_iff_mem.mpr hm), if_pos hm, scost_eq hok z.m (fun g hg => bestL_in g (List.mem_filter.mp hg).1), readers_eq hok bestL_in (h hn.1 hn.2 hm)]
      rfl
    · rw [if_neg (fun e => hm (List.contains_iff_mem.mp e)), if_neg hm, scost_eq hok z.m (fun g hg => by
        rcases List.mem_append.mp hg with h | h
        · exact bestL_in g h
        · rw [List.mem_singleton.mp h]; omega), linesK_snoc]
      unfold room1
      by_cases hr : linesK z.t (bestL z) + sz z.t n.toNat ≤ z.m.room
      · rw [if_pos hr, if_pos hr]; rfl
      · rw [if_neg hr, if_neg hr]; rfl
  · rw [if_neg hn, if_neg hn]; rfl
theorem due_step {o o' : Vamvsb.Obj} {call : Int} {told ans : List Int} (hok : ∀ z, o = some z → TOk z.t) (h : Due o call told ans o') : VamvsbNeutral.step o (rowC (call, told)) = (o', ans) := by
  cases h with
  | load b h => exact due_load o b
  | shown =>
    rw [row_no (by decide)]
    cases o with
    | none => exact step_of (k := .shown) rfl rfl rfl
    | some z => exact step_of (k := .shown) rfl rfl rfl
  | terms r ch =>
    rw [row_no (by decide)]
    cases o with
    | none => exact step_of (k := .terms r ch) rfl rfl rfl
    | some z =>
      show VamvsbNeutral.step _ _ = (some (termsObj z r ch), tellTerms r ch)
      have hst : Vamvsb.step (some z) (.terms r ch) = if r < 0 ∨ Vamvsb.MOST < r then (some z, VamvsBase.one (-3)) else if ch < 0 ∨ Vamvsb.CHANGES < ch then (some z, VamvsBase.one (-4)) else (some { z with m := ⟨r.toNat, ch.toNat⟩ }, VamvsBase.one 1) := rfl
      unfold termsObj tellTerms
      by_cases h1 : r < 0 ∨ (1000000 : Int) < r
      · rw [if_pos h1, if_pos h1]
        exact step_of (k := .terms r ch) rfl (hst.trans (if_pos (show r < 0 ∨ Vamvsb.MOST < r from h1))) rfl
      · rw [if_neg h1, if_neg h1]
        by_cases h2 : ch < 0 ∨ (1000 : Int) < ch
        · rw [if_pos h2, if_pos h2]
          exact step_of (k := .terms r ch) rfl (hst.trans ((if_neg (show ¬ (r < 0 ∨ Vamvsb.MOST < r) from h1)).trans (if_pos (show ch < 0 ∨ Vamvsb.CHANGES < ch from h2)))) rfl
        · rw [if_neg h2, if_neg h2]
          exact step_of (k := .terms r ch) rfl (hst.trans ((if_neg (show ¬ (r < 0 ∨ Vamvsb.MOST < r) from h1)).trans (if_neg (show ¬ (ch < 0 ∨ Vamvsb.CHANGES < ch) from h2)))) rfl
  | best =>
    rw [row_no (by decide)]
    cases o with
    | none => exact step_of (k := .best) rfl rfl rfl
    | some z =>
      refine step_of (k := .best) rfl rfl ?_
      show VamvsbNeutral.encode ⟨((Vamvsb.bestSet z.t z.m).cost : Int), ((Vamvsb.bestSet z.t z.m).room : Int) :: Vamvsb.listRow (Vamvsb.bestSet z.t z.m).kept⟩ = _
      rw [best_kept (hok z rfl)]; rfl
  | steps =>
    rw [row_no (by decide)]
    cases o with
    | none => exact step_of (k := .steps) rfl rfl rfl
    | some z =>
      refine step_of (k := .steps) rfl rfl ?_
      show VamvsbNeutral.encode ⟨((Vamvsb.stateCost z.t z.m (Vamvsb.steps z.t z.m) : Nat) : Int), ((Vamvsb.steps z.t z.m).room : Int) :: Vamvsb.listRow (Vamvsb.steps z.t z.m).kept⟩ = _
      rw [steps_eq (hok z rfl), cost_eq]; rfl
  | few n =>
    rw [row_no (by decide)]
    cases o with
    | none => exact step_of (k := .few n) rfl rfl rfl
    | some z => exact step_of (k := .few n) rfl rfl (due_few (hok z rfl) n)
  | price l h =>
    rw [row_yes (.inr rfl)]
    cases o with
    | none => exact step_of (k := .price _) rfl rfl rfl
    | some z => exact step_of (k := .price _) rfl rfl (due_price (hok z rfl) _)
  | why n rs h =>
    rw [row_no (by decide)]
    cases o with
    | none => exact step_of (k := .why n) rfl rfl rfl
    | some z => exact step_of (k := .why n) rfl rfl (due_why (hok z rfl) n rs (h z rfl))
  | curve ss h =>
    rw [row_no (by decide)]
    cases o with
    | none => exact step_of (k := .curve) rfl rfl rfl
    | some z =>
      refine step_of (k := .curve) rfl rfl ?_
      show VamvsbNeutral.encode ⟨((Vamvsb.curve z.t z.m).length : Int), (Vamvsb.curve z.t z.m).flatMap fun x => Vamvsb.nats [x.1, x.2]⟩ = tellCurve (Vamvsb.fall none ss)
      rw [curve_eq (hok z rfl) z.m (h z rfl)]
      unfold tellCurve intsN
      rw [List.map_cons, List.map_flatMap]; rfl
end Bk
end
section
local macro_rules | `(tactic| walk_at "rd1") => `(tactic| first
  | with_reducible refine Bk.rd_seq ?_
  | ((with_reducible refine' Bk.rd_var ?k1 ?_); (case k1 => exact rfl))
  | with_reducible refine Bk.rd_c ?_
  | with_reducible refine Bk.rd_op ?_
  | with_reducible refine Bk.rd_I0 ?_
  | ((with_reducible refine' Bk.rd_I ?k1 ?_); (case k1 => first | assumption | omega))
  | with_reducible refine Bk.rd_test ?_
  | with_reducible refine Bk.rd_tB ?_
  | with_reducible refine Bk.rd_bl ?_
  | ((with_reducible refine' Bk.rd_eq ?k1 ?_); (case k1 => exact rfl))
  | ((with_reducible refine' Bk.rd_ne ?k1 ?_); (case k1 => exact rfl))
  | with_reducible refine Bk.rd_and ?_
  | with_reducible refine Bk.rd_or ?_
  | with_reducible refine Bk.rd_not ?_
  | with_reducible refine Bk.rd_andV ?_
  | with_reducible refine Bk.rd_isN ?_
  | with_reducible refine Bk.rd_notN ?_
  | with_reducible refine Bk.rd_asg ?_
  | with_reducible refine Bk.rd_nm ?_
  | with_reducible refine Bk.rd_ret ?_
  | with_reducible refine Bk.rd_drop ?_
  | with_reducible refine Bk.rd_if ?_
  | with_reducible refine Bk.rd_ifE ?_
  | ((with_reducible refine' Bk.rd_aug ?k1 ?_); (case k1 => exact rfl))
  | with_reducible refine Bk.rd_ipI ?_
  | with_reducible refine Bk.rd_nil ?_
  | with_reducible refine Bk.rd_cons ?_
  | with_reducible refine Bk.rd_CB ?_
  | with_reducible refine Bk.rd_call ?_
  | with_reducible refine Bk.rd_callS ?_
  | with_reducible refine Bk.rd_un ?_
  | with_reducible refine Bk.rd_U ?_
  | with_reducible refine Bk.rd_fld ?_
  | with_reducible refine Bk.rd_sfld ?_
  | with_reducible refine Bk.rd_tup ?_
  | with_reducible refine Bk.rd_lst ?_
  | with_reducible refine Bk.rd_next ?_
  | with_reducible refine Bk.rd_brk ?_
  | with_reducible refine Bk.rd_BM ?_
  | with_reducible refine Bk.rd_BM0 ?_
  | with_reducible refine Bk.rd_for ?_
  | with_reducible refine Bk.rd_iStr ?_
  | with_reducible refine Bk.rd_fldaug ?_
  | with_reducible refine Bk.rd_mkO ?_
  | with_reducible refine Bk.rd_js ?_
  | with_reducible refine Bk.rd_js0 ?_
  | with_reducible refine Bk.rd_fmt ?_
  | with_reducible refine Bk.rd_erI ?_
  | with_reducible refine Bk.rd_erSet ?_
  | with_reducible refine Bk.rd_lc ?_
  | with_reducible refine Bk.rd_yes' ?_
  | with_reducible refine Bk.rd_iList ?_
  | with_reducible refine Bk.rd_iTup ?_
  | with_reducible refine Bk.rd_iRng1 ?_
  | with_reducible refine Bk.rd_iEnum ?_
  | with_reducible refine Bk.rd_iZip ?_
  | with_reducible refine Bk.rd_iEnumT ?_
  | with_reducible refine Bk.rd_M1 ?_
  | with_reducible refine Bk.rd_dget2 ?_
  | with_reducible refine Bk.rd_dput ?_
  | with_reducible refine Bk.rd_dnotin ?_
  | with_reducible refine Bk.rd_dget ?_
  | with_reducible refine Bk.rd_sl ?_
  | with_reducible refine Bk.rd_noPart ?_
  | with_reducible refine Bk.rd_part ?_
  | with_reducible refine Bk.rd_int ?_
  | with_reducible refine Bk.rd_str ?_
  | with_reducible refine Bk.rd_isstr ?_
  | with_reducible refine Bk.rd_make ?_
  | with_reducible refine Bk.rd_meth ?_
  | with_reducible refine L2.iteT ?_
  | with_reducible refine L2.iteF ?_)
local macro_rules | `(tactic| walk_at "rd") => `(tactic| repeat (walk_at "rd1"))
local macro_rules | `(tactic| walk_at "few") => `(tactic| first | exact (show (0 : Nat) < 1000 by decide) | exact (show (1 : Nat) < 1000 by decide) | exact (show (2 : Nat) < 1000 by decide) | exact (show (3 : Nat) < 1000 by decide) | exact (show (4 : Nat) < 1000 by decide) | exact (show (5 : Nat) < 1000 by decide) | exact (show (6 : Nat) < 1000 by decide) | exact (show (7 : Nat) < 1000 by decide))

/-! the whole list of calls -/
namespace Bk
open PySem hiding Tok
open PySem.Spec hiding Row
open PyProof.Rows L2
open Vamvsa (Table Row Ask columnsOf)
theorem toldOut_cons {o o' : Vamvsb.Obj} {call : Int} {told ans : List Int} {cs : List (Int × List Int)} (h : VamvsbNeutral.step o (rowC (call, told)) = (o', ans)) : toldOut o ((call, told) :: cs) = (ans.length : Int) :: ans ++ toldOut o' cs := by
  unfold toldOut
  rw [List.map_cons]
  show PyFlat.told ((VamvsbNeutral.step o (rowC (call, told))).2 :: PyFlat.played VamvsbNeutral.step (VamvsbNeutral.step o (rowC (call, told))).1 (cs.map rowC)) = _
  rw [h]; rfl
section
variable {P : Program} {w : World} {K : PySem.W.Frag} {mg : Str → Option Value} {base : Heap} {c : Cs}
abbrev isL (call : Int) : Prop := call = 0 ∨ call = 6
theorem in_with (call : Int) : inV (.int call) [.int 0, .int 6] = decide (isL call) := by
  unfold inV
  rw [List.any_cons, List.any_cons, List.any_nil]
  have e : ∀ m : Int, eqV (V.int m) (V.int call) = decide (call = m) := fun m => by
    show decide (m = call) = _
    by_cases h : m = call
    · rw [decide_eq_true h, decide_eq_true h.symm]
    · rw [decide_eq_false h, decide_eq_false fun z => h z.symm]
  rw [e, e, Bool.or_false]
  by_cases h1 : call = 0
  · rw [decide_eq_true h1, decide_eq_true (show isL call from .inl h1)]; rfl
  · by_cases h2 : call = 6
    · rw [decide_eq_true h2, decide_eq_true (show isL call from .inr h2), decide_eq_false h1]; rfl
    · rw [decide_eq_false h1, decide_eq_false h2, decide_eq_false (show ¬ isL call from fun h => h.elim h1 h2)]; rfl
def spToldBegin : Sp := fun vs H Q _ => ∃ (call place : Int), vs = [.int call, .int place] ∧ Q (.int (if isL call then place + 2 else place + 1)) H
theorem ok_told_begin (T : Txt K mg c) : DefOk P w K mg base CX0 1 "told_begin" ["call", "place"] spToldBegin := by
  refine DefOk.make T.d_told_begin s_told_begin (fun vs H Q E h => ?_) fun f cdv A outer s H vs Q E hr h => ?_
  · obtain ⟨call, place, rfl, q⟩ := h
    rfl
  · obtain ⟨call, place, rfl, q⟩ := h
    refine ⟨_, (pss_one (ps_ret (pe_ifExp (pt_cmpR op_in_seq (pv 0) (pe_glob (v := .ref T.c_WITH_LIST.choose) rfl T.c_WITH_LIST.choose_spec.1 rfl) (by rfl)) (pe_op op_add (pv 1) pe_int) (pe_op op_add (pv 1) pe_int)))), ?_⟩
    walk_at "rd"
    refine ⟨_, _, rfl, Or.inr (T.c_WITH_LIST.choose_spec.2 H), rfl, rfl, ?_⟩
    rw [if_neg (by decide), in_with]
    walk_at "rd"
    refine rd_ite (fun h => ?_) (fun h => ?_)
    · walk_at "rd"
      rw [if_pos h] at q
      exact q
    · walk_at "rd"
      rw [if_neg h] at q
      exact q
def argsN (call : Int) : Int := if call = 2 then 2 else if call = 5 ∨ call = 7 then 1 else 0
def spToldEnd (K : PySem.W.Frag) : Sp := fun vs H Q _ => ∃ (a : Addr) (ns : List Int) (bg : Nat) (call : Int) (e : Int), vs = [.ref a, .int bg, .int call] ∧ SqL K H a (ns.map V.int) ∧ 0 ≤ call ∧ call ≤ 8 ∧ (isL call → 1 ≤ bg ∧ ∃ n, ns[bg - 1]? = some n ∧ e = bg + n) ∧ (¬ isL call → e = bg + argsN call) ∧ Q (.int e) H
theorem ok_told_end (T : Txt K mg c) : DefOk P w K mg base CX0 1 "told_end" ["calls", "begin", "call"] (spToldEnd K) := by
  refine DefOk.make T.d_told_end s_told_end (fun vs H Q E h => ?_) fun f cdv A outer s H vs Q E hr h => ?_
  · obtain ⟨a, ns, bg, call, e, rfl, hs, h0, h8, hl, hn, q⟩ := h
    rfl
  · obtain ⟨a, ns, bg, call, e, rfl, hs, h0, h8, hl, hn, q⟩ := h
    refine ⟨_, (pss_cons (ps_if (pt_cmpR op_in_seq (pv 2) (pe_glob (v := .ref T.c_WITH_LIST.choose) rfl T.c_WITH_LIST.choose_spec.1 rfl) (by rfl))
      (pss_one (ps_ret (pe_op op_add (pv 1) (pe_ix ix_list (pv 0) (pe_op op_sub (pv 1) pe_int) (fun _ _ => rfl)))))
      pss_nil)
      (pss_one (ps_ret (pe_op op_add (pv 1) (pe_ix ix_tup (pe_glob (v := .ref T.c_NUMBERS_TOLD.choose) rfl T.c_NUMBERS_TOLD.choose_spec.1 rfl) (pv 2) (fun _ _ => rfl)))))), ?_⟩
    walk_at "rd"
    refine ⟨_, _, rfl, Or.inr (T.c_WITH_LIST.choose_spec.2 H), rfl, rfl, ?_⟩
    rw [if_neg (by decide), in_with]
    walk_at "rd"
    refine rd_ite (fun h => ?_) (fun h => ?_)
    · obtain ⟨h1, n, hn1, rfl⟩ := hl h
      walk_at "rd"
      have hi : (ns.map V.int)[bg - 1]? = some (V.int n) := by rw [List.getElem?_map, hn1]; rfl
      have hat : atI (ns.map V.int) ((bg : Int) - 1) = some (V.int n) := by
        rw [show (bg : Int) - 1 = ((bg - 1 : Nat) : Int) by omega]
        exact atI_nat hi
      refine ⟨a, _, (bg : Int) - 1, V.int n, rfl, rfl, hs, hat, ?_⟩
      walk_at "rd"
      exact q
    · walk_at "rd"
      obtain ⟨m, rfl⟩ : ∃ m : Nat, call = (m : Int) := ⟨call.toNat, by omega⟩
      have hm : ([.int 0, .int 0, .int 2, .int 0, .int 0, .int 1, .int 0, .int 1, .int 0] : List V)[m]? = some (V.int (argsN (m : Int))) := by
        have : m = 0 ∨ m = 1 ∨ m = 2 ∨ m = 3 ∨ m = 4 ∨ m = 5 ∨ m = 6 ∨ m = 7 ∨ m = 8 := by omega
        rcases this with e | e | e | e | e | e | e | e | e <;> subst e <;> rfl
      refine ⟨_, _, (m : Int), _, rfl, rfl, T.c_NUMBERS_TOLD.choose_spec.2 H, atI_nat hm, ?_⟩
      walk_at "rd"
      rw [← hn h]
      exact q
def spAnswers (K : PySem.W.Frag) : Sp := fun vs H Q _ => ∃ (a : Addr) (ns : List Int) (cs : List (Int × List Int)), vs = [.ref a] ∧ SqL K H a (ns.map V.int) ∧ ns = cs.flatMap encC ∧ (∀ x ∈ cs, CallIn x.1 x.2) ∧ (toldOut none cs).length ≤ 10000000 ∧
  ∀ p H', Ex H H' → H p = none → H' p = some (.lst (intV (toldOut none cs))) → Q (.ref p) H'
theorem call_range {call : Int} {told : List Int} (h : CallIn call told) : 0 ≤ call ∧ call ≤ 8 ∧ (¬ isL call → (told.length : Int) = argsN call) := by
  cases h with
  | load b h => exact ⟨by decide, by decide, fun n => absurd (.inl rfl) n⟩
  | price l h => exact ⟨by decide, by decide, fun n => absurd (.inr rfl) n⟩
  | _ => exact ⟨by decide, by decide, fun _ => rfl⟩
/-- where a call's numbers stand in the list -/
theorem enc_at {ns pre post told : List Int} {call : Int} (h : ns = pre ++ (encC (call, told) ++ post)) :
    ∃ bg : Nat, ns[pre.length]? = some call ∧ bg = (if isL call then pre.length + 2 else pre.length + 1) ∧ (isL call → ns[bg - 1]? = some (told.length : Int)) ∧ bg + told.length = pre.length + (encC (call, told)).length ∧
      bg + told.length ≤ ns.length ∧ (ns.drop bg).take (bg + told.length - bg) = told := by
  refine ⟨_, ?_, rfl, fun hl => ?_, ?_, ?_, ?_⟩
  · rw [h, List.getElem?_append_right (Nat.le_refl _), Nat.sub_self]
    unfold encC
    split <;> rfl
  · have hl' : call = 0 ∨ call = 6 := hl
    rw [if_pos hl, h, List.getElem?_append_right (by omega), show pre.length + 2 - 1 - pre.length = 1 by omega]
    unfold encC
    rw [if_pos hl]; rfl
  · unfold encC
    by_cases hl : isL call
    · rw [if_pos hl, if_pos hl]
      show _ = pre.length + (told.length + 1 + 1)
      omega
    · rw [if_neg hl, if_neg hl]
      show _ = pre.length + (told.length + 1)
      omega
  · rw [h, List.length_append, List.length_append]
    unfold encC
    by_cases hl : isL call
    · rw [if_pos hl, if_pos hl]
      show _ ≤ pre.length + (told.length + 1 + 1 + _)
      omega
    · rw [if_neg hl, if_neg hl]
      show _ ≤ pre.length + (told.length + 1 + _)
      omega
  · rw [Nat.add_sub_cancel_left, h]
    unfold encC
    by_cases hl : isL call
    · rw [if_pos hl, if_pos hl, ← List.drop_drop, List.drop_left]
      show (told ++ post).take told.length = told
      exact List.take_left
    · rw [if_neg hl, if_neg hl, ← List.drop_drop, List.drop_left]
      show (told ++ post).take told.length = told
      exact List.take_left
theorem cut_told {ns told : List Int} {bg : Nat} (h1 : bg + told.length ≤ ns.length) (h2 : (ns.drop bg).take (bg + told.length - bg) = told) : cutV (ns.map V.int) (some (bg : Int)) (some ((bg + told.length : Nat) : Int)) = told.map V.int := by
  unfold cutV
  rw [HT.sIx_nat, HT.sIx_nat, List.length_map, Nat.min_eq_left h1, Nat.min_eq_left (by omega), ← List.map_drop, ← List.map_take, h2]
theorem KeepAt.toks {H : Hp} {kp : Addr} {o : Vamvsb.Obj} (h : KeepAt c H kp o) : ∀ z, o = some z → TOk z.t := fun z e => by
  subst e
  exact h.tok
theorem fn_answers (T : Txt K mg c) {f : Addr} {fd : FuncData} (F : Fun K "answers" "answers" (top 95) f fd) : FnOk P w K mg base CX0 10 f fd ["calls"] (spAnswers K) := by
  obtain ⟨f_Keeper_init, fd_Keeper_init, m_Keeper_init, b_Keeper_init, F_Keeper_init⟩ := ok_Keeper_init (P := P) (w := w) (base := base) T
  obtain ⟨f_told_begin, fd_told_begin, g_told_begin, k_told_begin, b_told_begin, F_told_begin⟩ := ok_told_begin (P := P) (w := w) (base := base) T
  obtain ⟨f_told_end, fd_told_end, g_told_end, k_told_end, b_told_end, F_told_end⟩ := ok_told_end (P := P) (w := w) (base := base) T
  obtain ⟨f_Keeper_answer, fd_Keeper_answer, m_Keeper_answer, b_Keeper_answer, F_Keeper_answer⟩ := ok_Keeper_answer (P := P) (w := w) (base := base) T
  refine DefOk.makeF F s_answers (fun vs H Q E h => ?_) fun f cdv A outer s H vs Q E hr h => ?_
  · obtain ⟨a, ns, cs, rfl, hs, hns, hin, hlen, q⟩ := h
    rfl
  · obtain ⟨a, ns, cs, rfl, hs, hns, hin, hlen, q⟩ := h
    refine ⟨_, (pss_cons (ps_set (i := 1) s_answers.nd rfl (Or.inl rfl) (pe_make0 m_Keeper_init F_Keeper_init (hr.mono (by decide)) rfl T.g_Keeper b_Keeper_init .nil pass0))
      (pss_cons (ps_set (i := 2) s_answers.nd rfl (Or.inl rfl) (pe_lst pa_nil))
      (pss_cons (ps_set (i := 3) s_answers.nd rfl (Or.inl rfl) pe_int)
      (pss_cons (ps_while PassesOwn.never (pt_cmpR op_lt (pv 3) (pe_callB call_len_seq (by rfl) T.n_len (by decide +kernel) (pa_cons (pv 0) pa_nil)) (nomark _))
      (pss_cons (ps_set (i := 4) s_answers.nd rfl (Or.inl rfl) (pe_ix ix_list (pv 0) (pv 3) (fun _ _ => rfl)))
      (pss_cons (ps_set (i := 5) s_answers.nd rfl (Or.inl rfl) (pe_call F_told_begin (hr.mono (by decide)) rfl g_told_begin k_told_begin b_told_begin .nil pass0 (pa_cons (pv 4) (pa_cons (pv 3) pa_nil))))
      (pss_cons (ps_set (i := 6) s_answers.nd rfl (Or.inl rfl) (pe_call F_told_end (hr.mono (by decide)) rfl g_told_end k_told_end b_told_end .nil pass0 (pa_cons (pv 0) (pa_cons (pv 5) (pa_cons (pv 4) pa_nil)))))
      (pss_cons (ps_set (i := 7) s_answers.nd rfl (Or.inl rfl) (pe_methF (E := E0) (pv 1) T.k_Keeper m_Keeper_answer F_Keeper_answer (hr.mono (by decide)) b_Keeper_answer (pa_cons (pv 4) (pa_cons (pe_slice sl_list (pv 0) (po_some (pv 5)) (po_some (pv 6))) pa_nil))))
      (pss_cons (ps_expr (pe_bm PySem.F.plainAttrs_list PySem.F.slot_list_append PySem.F.type_list_append mt_append (pv 2) (pa_cons (pe_callB call_len_seq (by rfl) T.n_len (by decide +kernel) (pa_cons (pv 7) pa_nil)) pa_nil)))
      (pss_cons (ps_expr (pe_bm PySem.F.plainAttrs_list PySem.F.slot_list_extend PySem.F.type_list_extend mt_extend (pv 2) (pa_cons (pv 7) pa_nil)))
      (pss_one (ps_set (i := 3) s_answers.nd rfl (Or.inl rfl) (pv 6))))))))))
      (pss_one (ps_ret (pv 2))))))), ?_⟩
    walk_at "rd"
    have hsz : sizeLine = 16777216 := rfl
    intro kp dx hkp hdx hne
    refine ⟨kp, dx, rfl, upd_same, rfl, ?_⟩
    rw [upd_upd]
    walk_at "rd"
    refine ⟨Nat.zero_le _, fun L hL => ?_⟩
    walk_at "rd"
    have k0 : Ex H (upd (upd H dx (.own kp)) kp (.ins c.cKeeper dx (keepF .non .non .non 1000000 0))) := Ex.obj hkp hdx
    have k1 := k0.trans (Ex.new (o := .lst []) hL)
    have hK0 : KeepAt c (upd (upd (upd H dx (.own kp)) kp (.ins c.cKeeper dx (keepF .non .non .non 1000000 0))) L (.lst [])) kp none := ⟨dx, (Ex.new (o := .lst []) hL) _ _ upd_same⟩
    have hLH : H L = none := Ex.none k0 hL
    refine ⟨fun μ σ H' => ∃ (cs1 cs2 : List (Int × List Int)) (o : Vamvsb.Obj) (acc : List Int) (x y z u : Option V) (G : Hp), σ = [some (.ref a), some (.ref kp), some (.ref L), some (.int ((cs1.flatMap encC).length : Nat)), x, y, z, u] ∧ cs = cs1 ++ cs2 ∧ Ex H G ∧ G L = none ∧ KeepAt c G kp o ∧ H' = upd G L (.lst (intV acc)) ∧ μ = cs2.length ∧ toldOut none cs = acc ++ toldOut o cs2,
      ⟨_, [], cs, none, [], none, none, none, none, _, rfl, rfl, k0, hL, ⟨dx, upd_same⟩, rfl, rfl, rfl⟩, ?_⟩
    rintro μ σ H1 ⟨cs1, cs2, o, acc, x0, y0, z0, u0, G, rfl, hcs, kG, hGL, hKG, rfl, rfl, heq⟩
    have kL : Ex G (upd G L (.lst (intV acc))) := Ex.new hGL
    have hK1 := hKG.ex kL
    have hs1 := seq_ex (kG.trans kL) hs
    walk_at "rd"
    refine ⟨a, _, rfl, Or.inl hs1, ?_⟩
    rw [List.length_map]
    walk_at "rd"
    have hnl : ns.length = (cs1.flatMap encC).length + (cs2.flatMap encC).length := by rw [hns, hcs, List.flatMap_append, List.length_append]
    refine rd_ite (fun hlt => ?_) (fun hge => ?_)
    · cases cs2 with
      | nil => rw [hnl] at hlt; exact absurd hlt (by show ¬ _ < ((_ + 0 : Nat) : Int); omega)
      | cons cc cs2 =>
        obtain ⟨call, told⟩ := cc
        have hci := hin (call, told) (by rw [hcs]; exact List.mem_append_right _ List.mem_cons_self)
        obtain ⟨h0, h8, hna⟩ := call_range hci
        obtain ⟨bg, a1, a2, a3, a4, a5, a6⟩ := enc_at (ns := ns) (pre := cs1.flatMap encC) (post := cs2.flatMap encC) (told := told) (call := call) (by rw [hns, hcs, List.flatMap_append, List.flatMap_cons])
        refine ⟨_, fun _ _ h => h, ?_⟩
        walk_at "rd"
        refine ⟨a, _, _, V.int call, rfl, rfl, hs1, atI_nat (by rw [List.getElem?_map, a1]; rfl), ?_⟩
        walk_at "rd"
        refine ⟨_, _, rfl, ?_⟩
        have hbg : (if isL call then (((cs1.flatMap encC).length : Nat) : Int) + 2 else (((cs1.flatMap encC).length : Nat) : Int) + 1) = (bg : Int) := by
          rw [a2]
          split <;> omega
        rw [hbg]
        walk_at "rd"
        refine ⟨a, ns, bg, call, ((bg + told.length : Nat) : Int), rfl, hs1, h0, h8, fun hl => ⟨?_, _, a3 hl, by omega⟩, fun hl => ?_, ?_⟩
        · rw [a2, if_pos hl]; omega
        · have hx : (told.length : Int) = argsN call := hna hl
          rw [← hx]; omega
        obtain ⟨dxk, tv, gv, sv, r, ch, gk⟩ := hK1.at_
        walk_at "rd"
        refine rd_methF ?_
        walk_at "rd"
        refine ⟨kp, dxk, _, rfl, gk, rfl, ?_⟩
        walk_at "rd"
        refine ⟨a, _, rfl, hs1, fun p1 hp1 => ?_⟩
        rw [cut_told a5 a6]
        have k2 := Ex.new (o := .lst (told.map V.int)) hp1
        walk_at "rd"
        have hpL : p1 ≠ L := fun y => by rw [y, upd_same] at hp1; cases hp1
        have hGp : G p1 = none := by rw [upd_ne hpL] at hp1; exact hp1
        have hcl : (upd (upd G L (.lst (intV acc))) p1 (.lst (told.map V.int))) L = some (.lst (intV acc)) := by rw [upd_ne (Ne.symm hpL), upd_same]
        refine ⟨L, _, hcl, ?_⟩
        have hdel : del (upd (upd G L (.lst (intV acc))) p1 (.lst (told.map V.int))) L = upd G p1 (.lst (told.map V.int)) := by
          funext b
          by_cases hbL : b = L
          · rw [hbL, del_same, upd_ne (Ne.symm hpL)]
            exact hGL.symm
          · rw [del_ne hbL]
            by_cases hbp : b = p1
            · rw [hbp, upd_same, upd_same]
            · rw [upd_ne hbp, upd_ne hbL, upd_ne hbp]
        rw [hdel]
        have kp1 := Ex.new (o := .lst (told.map V.int)) hGp
        refine ⟨kp, p1, o, call, told, rfl, hKG.ex kp1, SqL.of upd_same, hci, fun p2 H3 ans o' b3 hp2 hl3 hK3 hdue hL3 => ?_⟩
        have hst := due_step hKG.toks hdue
        have hout := toldOut_cons (cs := cs2) hst
        rw [hout] at heq
        have hbound : acc.length + (1 + ans.length) ≤ 10000000 := by
          rw [heq, List.length_append, List.length_append, List.length_cons] at hlen
          omega
        have hp2L : p2 ≠ L := fun y => by rw [y, hL3] at hl3; cases hl3
        walk_at "rd"
        refine ⟨Or.inl ⟨rfl, _, SqL.of upd_same⟩, ?_⟩
        walk_at "rd"
        refine ⟨p2, _, rfl, Or.inl (SqL.of (by rw [upd_ne hp2L]; exact hl3)), ?_⟩
        walk_at "rd"
        refine ⟨L, _, _, rfl, rfl, upd_same, by show (acc.map V.int).length < _; rw [List.length_map]; omega, ?_⟩
        rw [upd_upd]
        walk_at "rd"
        refine ⟨Or.inl ⟨rfl, _, SqL.of upd_same⟩, ?_⟩
        walk_at "rd"
        refine ⟨L, p2, _, _, rfl, rfl, upd_same, by rw [upd_ne hp2L]; exact hl3, ?_, ?_⟩
        · show (acc.map V.int ++ [_]).length + (ans.map V.int).length ≤ _
          rw [List.length_append, List.length_map, List.length_map]
          show acc.length + 1 + _ ≤ _
          omega
        rw [upd_upd]
        walk_at "rd"
        have kG3 : Ex H H3 := fun b o e => b3 b o (by simpa using ne_of_none e hkp) (kp1 b o (kG b o e))
        refine ⟨cs2.length, Nat.lt_succ_self _, cs1 ++ [(call, told)], cs2, o', acc ++ ((ans.length : Int) :: ans), some (.int call), some (.int (bg : Nat)), some (.int ((bg + told.length : Nat) : Int)), some (.ref p2), H3, ?_, by rw [hcs, List.append_assoc]; rfl, kG3, hL3, hK3, ?_, rfl, by rw [heq, List.append_assoc]⟩
        · rw [List.flatMap_append, List.length_append]
          have e1 : (((cs1.flatMap encC).length + ([(call, told)].flatMap encC).length : Nat) : Int) = ((bg + told.length : Nat) : Int) := by
            rw [List.flatMap_singleton, a4]
          rw [e1]; rfl
        · congr 2
          unfold intV
          rw [List.map_append, List.map_cons, List.append_assoc]
          congr 1
          show _ = V.int ((ans.length : Nat) : Int) :: _
          rw [List.length_map]; rfl
    · have hc2 : cs2 = [] := by
        cases cs2 with
        | nil => rfl
        | cons cc cs2 =>
          exfalso
          rw [List.flatMap_cons, List.length_append] at hnl
          have : 1 ≤ (encC cc).length := by
            unfold encC
            split
            · show 1 ≤ _ + 1; omega
            · show 1 ≤ _ + 1; omega
          omega
      subst hc2
      walk_at "rd"
      have e0 : toldOut o [] = [] := rfl
      rw [e0, List.append_nil] at heq
      exact q L _ (kG.trans kL) hLH (by rw [upd_same, heq])
end
end Bk
end
section
/-! the end -/
namespace Bk
open PySem hiding Tok
open PySem.Spec hiding Row
open PyProof.Rows L2
section
variable {K : PySem.W.Frag} {h : Heap} {mg : Str → Option Value} {x : Str}
theorem HasC.int {n : Int} {t : PySem.Tok} (X : K.In h) (G : h.Ns mainGlobals mg) (a : PySem.W.nsIn K mainGlobals x = some (some (.int n t))) : HasC mg x (.int n) := ⟨_, PySem.W.mg_of X G a, t, rfl⟩
theorem HasC.str {y z : Str} {t : PySem.Tok} (X : K.In h) (G : h.Ns mainGlobals mg) (a : PySem.W.nsIn K mainGlobals x = some (some (.str y t))) (e : y = z) : HasC mg x (.str z) := ⟨_, PySem.W.mg_of X G a, t, by rw [e]⟩
theorem str_rel {y z : Str} {t : PySem.Tok} (e : y = z) : RelV (.str z) (.str y t) := ⟨t, by rw [e]⟩
theorem HasT.mk {A : Addr} {d : Option Addr} {its : Array Value} {n : Nat} {sl : Array (Option Value)} {vs : List V} (X : K.In h) (G : h.Ns mainGlobals mg) (a : PySem.W.nsIn K mainGlobals x = some (some (.ref A))) (l : K.lookup A = some ⟨.type "tuple", d, .seq its n, sl⟩)
    (z : its.size ≤ sizeLine) (v : Vals vs its.toList) : HasT K mg x vs := ⟨A, PySem.W.mg_of X G a, fun H => .inr ⟨_, its, n, l, rfl, rfl, z, v⟩⟩
section
variable {i : Nat} {ps : List Str} {f C : Addr} {oc : Value} {od an : Option Addr} {osl : Array (Option Value)} {kV doc pm cdv ct : Value} {m qual : Str} {st : Stmt}
theorem HasDef.make (X : K.In h) (G : h.Ns mainGlobals mg) (a : PySem.W.nsIn K mainGlobals x = some (some (.ref f))) (l : K.lookup f = some ⟨oc, od, .func (PySem.W.fnOf x x (defArgs (top i)) (defBody (top i)) (defScope (top i)) .none kV doc pm an cdv ct), osl⟩)
    (c : PySem.W.codeIn K cdv x = true) (k : PySem.W.keepIn K (.ref f) = true)
    (b : ∀ (kV doc pm : Value) (an : Option Addr) (cdv ct : Value) (us : List Value), us.length = ps.length → bindArgs (PySem.W.fnOf x x (defArgs (top i)) (defBody (top i)) (defScope (top i)) .none kV doc pm an cdv ct) ⟨us, []⟩ = pure (ps.zip us)) : HasDef K mg x i ps :=
  ⟨f, _, PySem.W.mg_of X G a, fun_mk l c k, (fun_mk l c k).binds b⟩
theorem HasMeth.make (X : K.In h) (G : h.Ns mainGlobals mg) (a : PySem.W.findIn K (.ref C) m = some (some (.ref f))) (i : PySem.W.isFn K (.ref f) = true) (k : PySem.W.keepIn K (.ref f) = true)
    (l : K.lookup f = some ⟨oc, od, .func (PySem.W.fnOf m qual (defArgs st) (defBody st) (defScope st) .none kV doc pm an cdv ct), osl⟩) (c : PySem.W.codeIn K cdv qual = true)
    (b : ∀ (kV doc pm : Value) (an : Option Addr) (cdv ct : Value) (us : List Value), us.length = ps.length → bindArgs (PySem.W.fnOf m qual (defArgs st) (defBody st) (defScope st) .none kV doc pm an cdv ct) ⟨us, []⟩ = pure (ps.zip us)) : HasMeth K C m qual st ps :=
  ⟨f, _, ⟨a, i, k⟩, fun_mk l c k, (fun_mk l c k).binds b⟩
theorem HasMk.make (X : K.In h) (G : h.Ns mainGlobals mg) (mk : PySem.W.makesIn K C = true) (a : PySem.W.findIn K (.ref C) "__init__" = some (some (.ref f))) (i : PySem.W.isFn K (.ref f) = true) (kc : PySem.W.keepIn K (.ref C) = true)
    (l : K.lookup f = some ⟨oc, od, .func (PySem.W.fnOf "__init__" qual (defArgs st) (defBody st) (defScope st) .none kV doc pm an cdv ct), osl⟩) (c : PySem.W.codeIn K cdv qual = true) (k : PySem.W.keepIn K (.ref f) = true)
    (b : ∀ (kV doc pm : Value) (an : Option Addr) (cdv ct : Value) (us : List Value), us.length = ps.length → bindArgs (PySem.W.fnOf "__init__" qual (defArgs st) (defBody st) (defScope st) .none kV doc pm an cdv ct) ⟨us, []⟩ = pure (ps.zip us)) : HasMk K C qual st ps :=
  ⟨f, _, ⟨mk, a, i, kc⟩, fun_mk l c k, (fun_mk l c k).binds b⟩
theorem exm_own {S : Addr} (h1 : PySem.W.subIn K (.ref S) (.type "BaseException") = some true) (h2 : PySem.W.isClsIn K S = true) (h3 : PySem.W.typeIn K (.ref S) = some (.type "type")) (h4 : PySem.W.subIn K (.ref S) (.ref S) = some true) :
    PySem.W.exmOne K (.ref S) (.ref S) = some true := by
  have e1 : (PySem.W.subIn K (.ref S) (.type "BaseException") == some true) = true := by rw [h1] <;> rfl
  have e2 : ((PySem.W.clsIn K S).isSome && PySem.W.typeIn K (.ref S) == some (.type "type")) = true := by
    have h5 : (PySem.W.clsIn K S).isSome = true := h2
    rw [h5, h3] <;> rfl
  show (if (PySem.W.subIn K (.ref S) (.type "BaseException") == some true) = true then (if ((PySem.W.clsIn K S).isSome && PySem.W.typeIn K (.ref S) == some (.type "type")) = true then PySem.W.subIn K (.ref S) (.ref S) else none) else none) = some true
  rw [if_pos e1, if_pos e2]
  exact h4
theorem HasErr.mk {nm q : Str} {N : Addr} {bs : List Value} {sn : List Str} {sub : List Value} {ab : Bool} {col : Option Bool} {dd : Option Addr} {m0 m1 m2 m3 m5 : Option Value} (X : K.In h) (G : h.Ns mainGlobals mg)
    (g : PySem.W.nsIn K mainGlobals x = some (some (.ref C)))
    (xl : K.lookup C = some (excClassObj nm q C N bs exTail true sn sub ab col dd m0 m1 m2 m3 m5 "Exception.__new__"))
    (sa : PySem.W.findIn K (.ref C) "__setattr__" = some (some (.builtin "object.__setattr__"))) (si : PySem.W.subIn K (.ref C) (.type "BaseException") = some true) (ty : PySem.W.typeIn K (.ref C) = some (.type "type")) (kp : PySem.W.keepIn K (.ref C) = true)
    (ga : PySem.W.findIn K (.ref C) "__getattribute__" = some (some (.builtin "BaseException.__getattribute__"))) (gg : PySem.W.findIn K (.ref C) "__getattr__" = some none) (hd : PySem.W.hasDictIn K C = true) (ic : PySem.W.isClsIn K C = true)
    (sc : PySem.W.subIn K (.ref C) (.ref C) = some true) (fc : PySem.W.findCls K (.type "Exception") (.type "type") "__init__" = some (.val (.builtin "Exception.__init__")))
    (a : PySem.W.findIn K (.ref C) "__init__" = some (some (.ref f))) (t : PySem.W.typeIn K (.ref f) = some (.type "function"))
    (l : K.lookup f = some ⟨oc, od, .func (PySem.W.fnOf "__init__" qual (defArgs st) (defBody st) (defScope st) .none kV doc pm an cdv ct), osl⟩) (c : PySem.W.codeIn K cdv qual = true) (k : PySem.W.keepIn K (.ref f) = true)
    (b : ∀ (kV doc pm : Value) (an : Option Addr) (cdv ct : Value) (us : List Value), us.length = ps.length → bindArgs (PySem.W.fnOf "__init__" qual (defArgs st) (defBody st) (defScope st) .none kV doc pm an cdv ct) ⟨us, []⟩ = pure (ps.zip us)) : HasErr K mg x C qual st ps :=
  ⟨⟨⟨nm, q, N, bs, sn, sub, ab, col, dd, m0, m1, m2, m3, m5, xl⟩, sa, si, ty, kp⟩, ⟨ga, gg, si, hd⟩, PySem.W.mg_of X G g, exm_own si ic ty sc, fc, f, _, a, t, fun_mk l c k, (fun_mk l c k).binds b⟩
end
end
theorem bf_size_of : ∀ (kV doc pm : Value) (an : Option Addr) (cdv ct : Value) (us : List Value), us.length = (["rows", "grouping"] : List Str).length → bindArgs (PySem.W.fnOf "size_of" "size_of" (defArgs (top 4)) (defBody (top 4)) (defScope (top 4)) .none kV doc pm an cdv ct) ⟨us, []⟩ = pure ((["rows", "grouping"] : List Str).zip us) := fun _ _ _ _ _ _ us hl => match us, hl with | [_, _], _ => rfl
theorem bf_told_apart : ∀ (kV doc pm : Value) (an : Option Addr) (cdv ct : Value) (us : List Value), us.length = (["values", "grouping"] : List Str).length → bindArgs (PySem.W.fnOf "told_apart" "told_apart" (defArgs (top 5)) (defBody (top 5)) (defScope (top 5)) .none kV doc pm an cdv ct) ⟨us, []⟩ = pure ((["values", "grouping"] : List Str).zip us) := fun _ _ _ _ _ _ us hl => match us, hl with | [_, _], _ => rfl
theorem bf_has_all : ∀ (kV doc pm : Value) (an : Option Addr) (cdv ct : Value) (us : List Value), us.length = (["grouping", "question"] : List Str).length → bindArgs (PySem.W.fnOf "has_all" "has_all" (defArgs (top 6)) (defBody (top 6)) (defScope (top 6)) .none kV doc pm an cdv ct) ⟨us, []⟩ = pure ((["grouping", "question"] : List Str).zip us) := fun _ _ _ _ _ _ us hl => match us, hl with | [_, _], _ => rfl
theorem bf_all_lines : ∀ (kV doc pm : Value) (an : Option Addr) (cdv ct : Value) (us : List Value), us.length = (["sizes"] : List Str).length → bindArgs (PySem.W.fnOf "all_lines" "all_lines" (defArgs (top 7)) (defBody (top 7)) (defScope (top 7)) .none kV doc pm an cdv ct) ⟨us, []⟩ = pure ((["sizes"] : List Str).zip us) := fun _ _ _ _ _ _ us hl => match us, hl with | [_], _ => rfl
theorem bf_all_readings : ∀ (kV doc pm : Value) (an : Option Addr) (cdv ct : Value) (us : List Value), us.length = (["groupings"] : List Str).length → bindArgs (PySem.W.fnOf "all_readings" "all_readings" (defArgs (top 8)) (defBody (top 8)) (defScope (top 8)) .none kV doc pm an cdv ct) ⟨us, []⟩ = pure ((["groupings"] : List Str).zip us) := fun _ _ _ _ _ _ us hl => match us, hl with | [_], _ => rfl
theorem bf_all_read : ∀ (kV doc pm : Value) (an : Option Addr) (cdv ct : Value) (us : List Value), us.length = (["groupings", "question"] : List Str).length → bindArgs (PySem.W.fnOf "all_read" "all_read" (defArgs (top 9)) (defBody (top 9)) (defScope (top 9)) .none kV doc pm an cdv ct) ⟨us, []⟩ = pure ((["groupings", "question"] : List Str).zip us) := fun _ _ _ _ _ _ us hl => match us, hl with | [_, _], _ => rfl
theorem bf_best_set : ∀ (kV doc pm : Value) (an : Option Addr) (cdv ct : Value) (us : List Value), us.length = (["sets", "room", "changes"] : List Str).length → bindArgs (PySem.W.fnOf "best_set" "best_set" (defArgs (top 10)) (defBody (top 10)) (defScope (top 10)) .none kV doc pm an cdv ct) ⟨us, []⟩ = pure ((["sets", "room", "changes"] : List Str).zip us) := fun _ _ _ _ _ _ us hl => match us, hl with | [_, _, _], _ => rfl
theorem bf_best_few : ∀ (kV doc pm : Value) (an : Option Addr) (cdv ct : Value) (us : List Value), us.length = (["sets", "most"] : List Str).length → bindArgs (PySem.W.fnOf "best_few" "best_few" (defArgs (top 11)) (defBody (top 11)) (defScope (top 11)) .none kV doc pm an cdv ct) ⟨us, []⟩ = pure ((["sets", "most"] : List Str).zip us) := fun _ _ _ _ _ _ us hl => match us, hl with | [_, _], _ => rfl
theorem bf_least_of : ∀ (kV doc pm : Value) (an : Option Addr) (cdv ct : Value) (us : List Value), us.length = (["sets", "numbers", "changes"] : List Str).length → bindArgs (PySem.W.fnOf "least_of" "least_of" (defArgs (top 12)) (defBody (top 12)) (defScope (top 12)) .none kV doc pm an cdv ct) ⟨us, []⟩ = pure ((["sets", "numbers", "changes"] : List Str).zip us) := fun _ _ _ _ _ _ us hl => match us, hl with | [_, _, _], _ => rfl
theorem bf_cost_by_number : ∀ (kV doc pm : Value) (an : Option Addr) (cdv ct : Value) (us : List Value), us.length = (["sets", "number", "changes"] : List Str).length → bindArgs (PySem.W.fnOf "cost_by_number" "cost_by_number" (defArgs (top 13)) (defBody (top 13)) (defScope (top 13)) .none kV doc pm an cdv ct) ⟨us, []⟩ = pure ((["sets", "number", "changes"] : List Str).zip us) := fun _ _ _ _ _ _ us hl => match us, hl with | [_, _, _], _ => rfl
theorem bf_members : ∀ (kV doc pm : Value) (an : Option Addr) (cdv ct : Value) (us : List Value), us.length = (["number"] : List Str).length → bindArgs (PySem.W.fnOf "members" "members" (defArgs (top 14)) (defBody (top 14)) (defScope (top 14)) .none kV doc pm an cdv ct) ⟨us, []⟩ = pure ((["number"] : List Str).zip us) := fun _ _ _ _ _ _ us hl => match us, hl with | [_], _ => rfl
theorem bf_rooms_that_bring : ∀ (kV doc pm : Value) (an : Option Addr) (cdv ct : Value) (us : List Value), us.length = (["sets", "changes"] : List Str).length → bindArgs (PySem.W.fnOf "rooms_that_bring" "rooms_that_bring" (defArgs (top 15)) (defBody (top 15)) (defScope (top 15)) .none kV doc pm an cdv ct) ⟨us, []⟩ = pure ((["sets", "changes"] : List Str).zip us) := fun _ _ _ _ _ _ us hl => match us, hl with | [_, _], _ => rfl
theorem bf_step_by_step : ∀ (kV doc pm : Value) (an : Option Addr) (cdv ct : Value) (us : List Value), us.length = (["groupings", "room", "changes"] : List Str).length → bindArgs (PySem.W.fnOf "step_by_step" "step_by_step" (defArgs (top 16)) (defBody (top 16)) (defScope (top 16)) .none kV doc pm an cdv ct) ⟨us, []⟩ = pure ((["groupings", "room", "changes"] : List Str).zip us) := fun _ _ _ _ _ _ us hl => match us, hl with | [_, _, _], _ => rfl
theorem bf_few_step_by_step : ∀ (kV doc pm : Value) (an : Option Addr) (cdv ct : Value) (us : List Value), us.length = (["groupings", "most"] : List Str).length → bindArgs (PySem.W.fnOf "few_step_by_step" "few_step_by_step" (defArgs (top 17)) (defBody (top 17)) (defScope (top 17)) .none kV doc pm an cdv ct) ⟨us, []⟩ = pure ((["groupings", "most"] : List Str).zip us) := fun _ _ _ _ _ _ us hl => match us, hl with | [_, _], _ => rfl
theorem bf_steps_at_most : ∀ (kV doc pm : Value) (an : Option Addr) (cdv ct : Value) (us : List Value), us.length = (["groupings", "room", "changes", "most"] : List Str).length → bindArgs (PySem.W.fnOf "steps_at_most" "steps_at_most" (defArgs (top 18)) (defBody (top 18)) (defScope (top 18)) .none kV doc pm an cdv ct) ⟨us, []⟩ = pure ((["groupings", "room", "changes", "most"] : List Str).zip us) := fun _ _ _ _ _ _ us hl => match us, hl with | [_, _, _, _], _ => rfl
theorem bf_best_step : ∀ (kV doc pm : Value) (an : Option Addr) (cdv ct : Value) (us : List Value), us.length = (["groupings", "kept", "room", "changes"] : List Str).length → bindArgs (PySem.W.fnOf "best_step" "best_step" (defArgs (top 19)) (defBody (top 19)) (defScope (top 19)) .none kV doc pm an cdv ct) ⟨us, []⟩ = pure ((["groupings", "kept", "room", "changes"] : List Str).zip us) := fun _ _ _ _ _ _ us hl => match us, hl with | [_, _, _, _], _ => rfl
theorem bf_lines_of : ∀ (kV doc pm : Value) (an : Option Addr) (cdv ct : Value) (us : List Value), us.length = (["groupings", "kept"] : List Str).length → bindArgs (PySem.W.fnOf "lines_of" "lines_of" (defArgs (top 20)) (defBody (top 20)) (defScope (top 20)) .none kV doc pm an cdv ct) ⟨us, []⟩ = pure ((["groupings", "kept"] : List Str).zip us) := fun _ _ _ _ _ _ us hl => match us, hl with | [_, _], _ => rfl
theorem bf_cost_of : ∀ (kV doc pm : Value) (an : Option Addr) (cdv ct : Value) (us : List Value), us.length = (["groupings", "kept", "changes"] : List Str).length → bindArgs (PySem.W.fnOf "cost_of" "cost_of" (defArgs (top 21)) (defBody (top 21)) (defScope (top 21)) .none kV doc pm an cdv ct) ⟨us, []⟩ = pure ((["groupings", "kept", "changes"] : List Str).zip us) := fun _ _ _ _ _ _ us hl => match us, hl with | [_, _, _], _ => rfl
theorem bf_reading_of : ∀ (kV doc pm : Value) (an : Option Addr) (cdv ct : Value) (us : List Value), us.length = (["groupings", "kept"] : List Str).length → bindArgs (PySem.W.fnOf "reading_of" "reading_of" (defArgs (top 22)) (defBody (top 22)) (defScope (top 22)) .none kV doc pm an cdv ct) ⟨us, []⟩ = pure ((["groupings", "kept"] : List Str).zip us) := fun _ _ _ _ _ _ us hl => match us, hl with | [_, _], _ => rfl
theorem bf_what_is_read : ∀ (kV doc pm : Value) (an : Option Addr) (cdv ct : Value) (us : List Value), us.length = (["groupings", "question", "kept"] : List Str).length → bindArgs (PySem.W.fnOf "what_is_read" "what_is_read" (defArgs (top 23)) (defBody (top 23)) (defScope (top 23)) .none kV doc pm an cdv ct) ⟨us, []⟩ = pure ((["groupings", "question", "kept"] : List Str).zip us) := fun _ _ _ _ _ _ us hl => match us, hl with | [_, _, _], _ => rfl
theorem bf_questions_that_read : ∀ (kV doc pm : Value) (an : Option Addr) (cdv ct : Value) (us : List Value), us.length = (["groupings", "grouping", "kept"] : List Str).length → bindArgs (PySem.W.fnOf "questions_that_read" "questions_that_read" (defArgs (top 24)) (defBody (top 24)) (defScope (top 24)) .none kV doc pm an cdv ct) ⟨us, []⟩ = pure ((["groupings", "grouping", "kept"] : List Str).zip us) := fun _ _ _ _ _ _ us hl => match us, hl with | [_, _, _], _ => rfl
theorem bf_upkeep : ∀ (kV doc pm : Value) (an : Option Addr) (cdv ct : Value) (us : List Value), us.length = (["count", "changes"] : List Str).length → bindArgs (PySem.W.fnOf "upkeep" "upkeep" (defArgs (top 25)) (defBody (top 25)) (defScope (top 25)) .none kV doc pm an cdv ct) ⟨us, []⟩ = pure ((["count", "changes"] : List Str).zip us) := fun _ _ _ _ _ _ us hl => match us, hl with | [_, _], _ => rfl
theorem bf_tokens_of : ∀ (kV doc pm : Value) (an : Option Addr) (cdv ct : Value) (us : List Value), us.length = (["text"] : List Str).length → bindArgs (PySem.W.fnOf "tokens_of" "tokens_of" (defArgs (top 40)) (defBody (top 40)) (defScope (top 40)) .none kV doc pm an cdv ct) ⟨us, []⟩ = pure ((["text"] : List Str).zip us) := fun _ _ _ _ _ _ us hl => match us, hl with | [_], _ => rfl
theorem bf_as_signs : ∀ (kV doc pm : Value) (an : Option Addr) (cdv ct : Value) (us : List Value), us.length = (["text"] : List Str).length → bindArgs (PySem.W.fnOf "as_signs" "as_signs" (defArgs (top 41)) (defBody (top 41)) (defScope (top 41)) .none kV doc pm an cdv ct) ⟨us, []⟩ = pure ((["text"] : List Str).zip us) := fun _ _ _ _ _ _ us hl => match us, hl with | [_], _ => rfl
theorem bf_past_blanks : ∀ (kV doc pm : Value) (an : Option Addr) (cdv ct : Value) (us : List Value), us.length = (["signs", "place"] : List Str).length → bindArgs (PySem.W.fnOf "past_blanks" "past_blanks" (defArgs (top 42)) (defBody (top 42)) (defScope (top 42)) .none kV doc pm an cdv ct) ⟨us, []⟩ = pure ((["signs", "place"] : List Str).zip us) := fun _ _ _ _ _ _ us hl => match us, hl with | [_, _], _ => rfl
theorem bf_remark_end : ∀ (kV doc pm : Value) (an : Option Addr) (cdv ct : Value) (us : List Value), us.length = (["signs", "place"] : List Str).length → bindArgs (PySem.W.fnOf "remark_end" "remark_end" (defArgs (top 43)) (defBody (top 43)) (defScope (top 43)) .none kV doc pm an cdv ct) ⟨us, []⟩ = pure ((["signs", "place"] : List Str).zip us) := fun _ _ _ _ _ _ us hl => match us, hl with | [_, _], _ => rfl
theorem bf_token_at : ∀ (kV doc pm : Value) (an : Option Addr) (cdv ct : Value) (us : List Value), us.length = (["signs", "place"] : List Str).length → bindArgs (PySem.W.fnOf "token_at" "token_at" (defArgs (top 44)) (defBody (top 44)) (defScope (top 44)) .none kV doc pm an cdv ct) ⟨us, []⟩ = pure ((["signs", "place"] : List Str).zip us) := fun _ _ _ _ _ _ us hl => match us, hl with | [_, _], _ => rfl
theorem bf_number_at : ∀ (kV doc pm : Value) (an : Option Addr) (cdv ct : Value) (us : List Value), us.length = (["signs", "place"] : List Str).length → bindArgs (PySem.W.fnOf "number_at" "number_at" (defArgs (top 45)) (defBody (top 45)) (defScope (top 45)) .none kV doc pm an cdv ct) ⟨us, []⟩ = pure ((["signs", "place"] : List Str).zip us) := fun _ _ _ _ _ _ us hl => match us, hl with | [_, _], _ => rfl
theorem bf_is_number : ∀ (kV doc pm : Value) (an : Option Addr) (cdv ct : Value) (us : List Value), us.length = (["digits"] : List Str).length → bindArgs (PySem.W.fnOf "is_number" "is_number" (defArgs (top 46)) (defBody (top 46)) (defScope (top 46)) .none kV doc pm an cdv ct) ⟨us, []⟩ = pure ((["digits"] : List Str).zip us) := fun _ _ _ _ _ _ us hl => match us, hl with | [_], _ => rfl
theorem bf_name_at : ∀ (kV doc pm : Value) (an : Option Addr) (cdv ct : Value) (us : List Value), us.length = (["signs", "place"] : List Str).length → bindArgs (PySem.W.fnOf "name_at" "name_at" (defArgs (top 47)) (defBody (top 47)) (defScope (top 47)) .none kV doc pm an cdv ct) ⟨us, []⟩ = pure ((["signs", "place"] : List Str).zip us) := fun _ _ _ _ _ _ us hl => match us, hl with | [_, _], _ => rfl
theorem bf_run_end : ∀ (kV doc pm : Value) (an : Option Addr) (cdv ct : Value) (us : List Value), us.length = (["signs", "place", "allowed"] : List Str).length → bindArgs (PySem.W.fnOf "run_end" "run_end" (defArgs (top 48)) (defBody (top 48)) (defScope (top 48)) .none kV doc pm an cdv ct) ⟨us, []⟩ = pure ((["signs", "place", "allowed"] : List Str).zip us) := fun _ _ _ _ _ _ us hl => match us, hl with | [_, _, _], _ => rfl
theorem bf_read_table : ∀ (kV doc pm : Value) (an : Option Addr) (cdv ct : Value) (us : List Value), us.length = (["text"] : List Str).length → bindArgs (PySem.W.fnOf "read_table" "read_table" (defArgs (top 59)) (defBody (top 59)) (defScope (top 59)) .none kV doc pm an cdv ct) ⟨us, []⟩ = pure ((["text"] : List Str).zip us) := fun _ _ _ _ _ _ us hl => match us, hl with | [_], _ => rfl
theorem bf_read_columns : ∀ (kV doc pm : Value) (an : Option Addr) (cdv ct : Value) (us : List Value), us.length = (["reader"] : List Str).length → bindArgs (PySem.W.fnOf "read_columns" "read_columns" (defArgs (top 60)) (defBody (top 60)) (defScope (top 60)) .none kV doc pm an cdv ct) ⟨us, []⟩ = pure ((["reader"] : List Str).zip us) := fun _ _ _ _ _ _ us hl => match us, hl with | [_], _ => rfl
theorem bf_read_new_name : ∀ (kV doc pm : Value) (an : Option Addr) (cdv ct : Value) (us : List Value), us.length = (["reader", "names"] : List Str).length → bindArgs (PySem.W.fnOf "read_new_name" "read_new_name" (defArgs (top 61)) (defBody (top 61)) (defScope (top 61)) .none kV doc pm an cdv ct) ⟨us, []⟩ = pure ((["reader", "names"] : List Str).zip us) := fun _ _ _ _ _ _ us hl => match us, hl with | [_, _], _ => rfl
theorem bf_read_row : ∀ (kV doc pm : Value) (an : Option Addr) (cdv ct : Value) (us : List Value), us.length = (["reader", "table"] : List Str).length → bindArgs (PySem.W.fnOf "read_row" "read_row" (defArgs (top 62)) (defBody (top 62)) (defScope (top 62)) .none kV doc pm an cdv ct) ⟨us, []⟩ = pure ((["reader", "table"] : List Str).zip us) := fun _ _ _ _ _ _ us hl => match us, hl with | [_, _], _ => rfl
theorem bf_read_amount : ∀ (kV doc pm : Value) (an : Option Addr) (cdv ct : Value) (us : List Value), us.length = (["reader"] : List Str).length → bindArgs (PySem.W.fnOf "read_amount" "read_amount" (defArgs (top 63)) (defBody (top 63)) (defScope (top 63)) .none kV doc pm an cdv ct) ⟨us, []⟩ = pure ((["reader"] : List Str).zip us) := fun _ _ _ _ _ _ us hl => match us, hl with | [_], _ => rfl
theorem bf_read_number : ∀ (kV doc pm : Value) (an : Option Addr) (cdv ct : Value) (us : List Value), us.length = (["reader", "least", "greatest"] : List Str).length → bindArgs (PySem.W.fnOf "read_number" "read_number" (defArgs (top 64)) (defBody (top 64)) (defScope (top 64)) .none kV doc pm an cdv ct) ⟨us, []⟩ = pure ((["reader", "least", "greatest"] : List Str).zip us) := fun _ _ _ _ _ _ us hl => match us, hl with | [_, _, _], _ => rfl
theorem bf_read_question : ∀ (kV doc pm : Value) (an : Option Addr) (cdv ct : Value) (us : List Value), us.length = (["reader", "table"] : List Str).length → bindArgs (PySem.W.fnOf "read_question" "read_question" (defArgs (top 65)) (defBody (top 65)) (defScope (top 65)) .none kV doc pm an cdv ct) ⟨us, []⟩ = pure ((["reader", "table"] : List Str).zip us) := fun _ _ _ _ _ _ us hl => match us, hl with | [_, _], _ => rfl
theorem bf_read_grouping : ∀ (kV doc pm : Value) (an : Option Addr) (cdv ct : Value) (us : List Value), us.length = (["reader", "columns"] : List Str).length → bindArgs (PySem.W.fnOf "read_grouping" "read_grouping" (defArgs (top 66)) (defBody (top 66)) (defScope (top 66)) .none kV doc pm an cdv ct) ⟨us, []⟩ = pure ((["reader", "columns"] : List Str).zip us) := fun _ _ _ _ _ _ us hl => match us, hl with | [_, _], _ => rfl
theorem bf_read_column_bit : ∀ (kV doc pm : Value) (an : Option Addr) (cdv ct : Value) (us : List Value), us.length = (["reader", "columns", "grouping"] : List Str).length → bindArgs (PySem.W.fnOf "read_column_bit" "read_column_bit" (defArgs (top 67)) (defBody (top 67)) (defScope (top 67)) .none kV doc pm an cdv ct) ⟨us, []⟩ = pure ((["reader", "columns", "grouping"] : List Str).zip us) := fun _ _ _ _ _ _ us hl => match us, hl with | [_, _, _], _ => rfl
theorem bf_one_form : ∀ (kV doc pm : Value) (an : Option Addr) (cdv ct : Value) (us : List Value), us.length = (["table"] : List Str).length → bindArgs (PySem.W.fnOf "one_form" "one_form" (defArgs (top 68)) (defBody (top 68)) (defScope (top 68)) .none kV doc pm an cdv ct) ⟨us, []⟩ = pure ((["table"] : List Str).zip us) := fun _ _ _ _ _ _ us hl => match us, hl with | [_], _ => rfl
theorem bf_columns_line : ∀ (kV doc pm : Value) (an : Option Addr) (cdv ct : Value) (us : List Value), us.length = (["table"] : List Str).length → bindArgs (PySem.W.fnOf "columns_line" "columns_line" (defArgs (top 69)) (defBody (top 69)) (defScope (top 69)) .none kV doc pm an cdv ct) ⟨us, []⟩ = pure ((["table"] : List Str).zip us) := fun _ _ _ _ _ _ us hl => match us, hl with | [_], _ => rfl
theorem bf_row_line : ∀ (kV doc pm : Value) (an : Option Addr) (cdv ct : Value) (us : List Value), us.length = (["row"] : List Str).length → bindArgs (PySem.W.fnOf "row_line" "row_line" (defArgs (top 70)) (defBody (top 70)) (defScope (top 70)) .none kV doc pm an cdv ct) ⟨us, []⟩ = pure ((["row"] : List Str).zip us) := fun _ _ _ _ _ _ us hl => match us, hl with | [_], _ => rfl
theorem bf_question_line : ∀ (kV doc pm : Value) (an : Option Addr) (cdv ct : Value) (us : List Value), us.length = (["table", "question"] : List Str).length → bindArgs (PySem.W.fnOf "question_line" "question_line" (defArgs (top 71)) (defBody (top 71)) (defScope (top 71)) .none kV doc pm an cdv ct) ⟨us, []⟩ = pure ((["table", "question"] : List Str).zip us) := fun _ _ _ _ _ _ us hl => match us, hl with | [_, _], _ => rfl
theorem bf_names_of : ∀ (kV doc pm : Value) (an : Option Addr) (cdv ct : Value) (us : List Value), us.length = (["columns", "grouping"] : List Str).length → bindArgs (PySem.W.fnOf "names_of" "names_of" (defArgs (top 72)) (defBody (top 72)) (defScope (top 72)) .none kV doc pm an cdv ct) ⟨us, []⟩ = pure ((["columns", "grouping"] : List Str).zip us) := fun _ _ _ _ _ _ us hl => match us, hl with | [_, _], _ => rfl
theorem bf_answers : ∀ (kV doc pm : Value) (an : Option Addr) (cdv ct : Value) (us : List Value), us.length = (["calls"] : List Str).length → bindArgs (PySem.W.fnOf "answers" "answers" (defArgs (top 95)) (defBody (top 95)) (defScope (top 95)) .none kV doc pm an cdv ct) ⟨us, []⟩ = pure ((["calls"] : List Str).zip us) := fun _ _ _ _ _ _ us hl => match us, hl with | [_], _ => rfl
theorem bf_told_begin : ∀ (kV doc pm : Value) (an : Option Addr) (cdv ct : Value) (us : List Value), us.length = (["call", "place"] : List Str).length → bindArgs (PySem.W.fnOf "told_begin" "told_begin" (defArgs (top 96)) (defBody (top 96)) (defScope (top 96)) .none kV doc pm an cdv ct) ⟨us, []⟩ = pure ((["call", "place"] : List Str).zip us) := fun _ _ _ _ _ _ us hl => match us, hl with | [_, _], _ => rfl
theorem bf_told_end : ∀ (kV doc pm : Value) (an : Option Addr) (cdv ct : Value) (us : List Value), us.length = (["calls", "begin", "call"] : List Str).length → bindArgs (PySem.W.fnOf "told_end" "told_end" (defArgs (top 97)) (defBody (top 97)) (defScope (top 97)) .none kV doc pm an cdv ct) ⟨us, []⟩ = pure ((["calls", "begin", "call"] : List Str).zip us) := fun _ _ _ _ _ _ us hl => match us, hl with | [_, _, _], _ => rfl
theorem bf_Groupings_init : ∀ (kV doc pm : Value) (an : Option Addr) (cdv ct : Value) (us : List Value), us.length = (["self", "table"] : List Str).length → bindArgs (PySem.W.fnOf "__init__" "Groupings.__init__" (defArgs (inClass (top 2) 0)) (defBody (inClass (top 2) 0)) (defScope (inClass (top 2) 0)) .none kV doc pm an cdv ct) ⟨us, []⟩ = pure ((["self", "table"] : List Str).zip us) := fun _ _ _ _ _ _ us hl => match us, hl with | [_, _], _ => rfl
theorem bf_AllSets_init : ∀ (kV doc pm : Value) (an : Option Addr) (cdv ct : Value) (us : List Value), us.length = (["self", "groupings"] : List Str).length → bindArgs (PySem.W.fnOf "__init__" "AllSets.__init__" (defArgs (inClass (top 3) 0)) (defBody (inClass (top 3) 0)) (defScope (inClass (top 3) 0)) .none kV doc pm an cdv ct) ⟨us, []⟩ = pure ((["self", "groupings"] : List Str).zip us) := fun _ _ _ _ _ _ us hl => match us, hl with | [_, _], _ => rfl
theorem bf_Fault_init : ∀ (kV doc pm : Value) (an : Option Addr) (cdv ct : Value) (us : List Value), us.length = (["self", "code", "place"] : List Str).length → bindArgs (PySem.W.fnOf "__init__" "Fault.__init__" (defArgs (inClass (top 27) 0)) (defBody (inClass (top 27) 0)) (defScope (inClass (top 27) 0)) .none kV doc pm an cdv ct) ⟨us, []⟩ = pure ((["self", "code", "place"] : List Str).zip us) := fun _ _ _ _ _ _ us hl => match us, hl with | [_, _, _], _ => rfl
theorem bf_Token_init : ∀ (kV doc pm : Value) (an : Option Addr) (cdv ct : Value) (us : List Value), us.length = (["self", "kind", "told", "place", "behind"] : List Str).length → bindArgs (PySem.W.fnOf "__init__" "Token.__init__" (defArgs (inClass (top 39) 0)) (defBody (inClass (top 39) 0)) (defScope (inClass (top 39) 0)) .none kV doc pm an cdv ct) ⟨us, []⟩ = pure ((["self", "kind", "told", "place", "behind"] : List Str).zip us) := fun _ _ _ _ _ _ us hl => match us, hl with | [_, _, _, _, _], _ => rfl
theorem bf_Table_init : ∀ (kV doc pm : Value) (an : Option Addr) (cdv ct : Value) (us : List Value), us.length = (["self", "columns"] : List Str).length → bindArgs (PySem.W.fnOf "__init__" "Table.__init__" (defArgs (inClass (top 57) 0)) (defBody (inClass (top 57) 0)) (defScope (inClass (top 57) 0)) .none kV doc pm an cdv ct) ⟨us, []⟩ = pure ((["self", "columns"] : List Str).zip us) := fun _ _ _ _ _ _ us hl => match us, hl with | [_, _], _ => rfl
theorem bf_Reader_init : ∀ (kV doc pm : Value) (an : Option Addr) (cdv ct : Value) (us : List Value), us.length = (["self", "tokens"] : List Str).length → bindArgs (PySem.W.fnOf "__init__" "Reader.__init__" (defArgs (inClass (top 58) 0)) (defBody (inClass (top 58) 0)) (defScope (inClass (top 58) 0)) .none kV doc pm an cdv ct) ⟨us, []⟩ = pure ((["self", "tokens"] : List Str).zip us) := fun _ _ _ _ _ _ us hl => match us, hl with | [_, _], _ => rfl
theorem bf_Reader_sees : ∀ (kV doc pm : Value) (an : Option Addr) (cdv ct : Value) (us : List Value), us.length = (["self", "kind"] : List Str).length → bindArgs (PySem.W.fnOf "sees" "Reader.sees" (defArgs (inClass (top 58) 1)) (defBody (inClass (top 58) 1)) (defScope (inClass (top 58) 1)) .none kV doc pm an cdv ct) ⟨us, []⟩ = pure ((["self", "kind"] : List Str).zip us) := fun _ _ _ _ _ _ us hl => match us, hl with | [_, _], _ => rfl
theorem bf_Reader_take : ∀ (kV doc pm : Value) (an : Option Addr) (cdv ct : Value) (us : List Value), us.length = (["self", "kind"] : List Str).length → bindArgs (PySem.W.fnOf "take" "Reader.take" (defArgs (inClass (top 58) 2)) (defBody (inClass (top 58) 2)) (defScope (inClass (top 58) 2)) .none kV doc pm an cdv ct) ⟨us, []⟩ = pure ((["self", "kind"] : List Str).zip us) := fun _ _ _ _ _ _ us hl => match us, hl with | [_, _], _ => rfl
theorem bf_Keeper_init : ∀ (kV doc pm : Value) (an : Option Addr) (cdv ct : Value) (us : List Value), us.length = (["self"] : List Str).length → bindArgs (PySem.W.fnOf "__init__" "Keeper.__init__" (defArgs (inClass (top 94) 0)) (defBody (inClass (top 94) 0)) (defScope (inClass (top 94) 0)) .none kV doc pm an cdv ct) ⟨us, []⟩ = pure ((["self"] : List Str).zip us) := fun _ _ _ _ _ _ us hl => match us, hl with | [_], _ => rfl
theorem bf_Keeper_answer : ∀ (kV doc pm : Value) (an : Option Addr) (cdv ct : Value) (us : List Value), us.length = (["self", "call", "told"] : List Str).length → bindArgs (PySem.W.fnOf "answer" "Keeper.answer" (defArgs (inClass (top 94) 1)) (defBody (inClass (top 94) 1)) (defScope (inClass (top 94) 1)) .none kV doc pm an cdv ct) ⟨us, []⟩ = pure ((["self", "call", "told"] : List Str).zip us) := fun _ _ _ _ _ _ us hl => match us, hl with | [_, _, _], _ => rfl
theorem bf_Keeper_load : ∀ (kV doc pm : Value) (an : Option Addr) (cdv ct : Value) (us : List Value), us.length = (["self", "text"] : List Str).length → bindArgs (PySem.W.fnOf "load" "Keeper.load" (defArgs (inClass (top 94) 2)) (defBody (inClass (top 94) 2)) (defScope (inClass (top 94) 2)) .none kV doc pm an cdv ct) ⟨us, []⟩ = pure ((["self", "text"] : List Str).zip us) := fun _ _ _ _ _ _ us hl => match us, hl with | [_, _], _ => rfl
theorem bf_Keeper_shown : ∀ (kV doc pm : Value) (an : Option Addr) (cdv ct : Value) (us : List Value), us.length = (["self"] : List Str).length → bindArgs (PySem.W.fnOf "shown" "Keeper.shown" (defArgs (inClass (top 94) 3)) (defBody (inClass (top 94) 3)) (defScope (inClass (top 94) 3)) .none kV doc pm an cdv ct) ⟨us, []⟩ = pure ((["self"] : List Str).zip us) := fun _ _ _ _ _ _ us hl => match us, hl with | [_], _ => rfl
theorem bf_Keeper_set_terms : ∀ (kV doc pm : Value) (an : Option Addr) (cdv ct : Value) (us : List Value), us.length = (["self", "room", "changes"] : List Str).length → bindArgs (PySem.W.fnOf "set_terms" "Keeper.set_terms" (defArgs (inClass (top 94) 4)) (defBody (inClass (top 94) 4)) (defScope (inClass (top 94) 4)) .none kV doc pm an cdv ct) ⟨us, []⟩ = pure ((["self", "room", "changes"] : List Str).zip us) := fun _ _ _ _ _ _ us hl => match us, hl with | [_, _, _], _ => rfl
theorem bf_Keeper_best : ∀ (kV doc pm : Value) (an : Option Addr) (cdv ct : Value) (us : List Value), us.length = (["self"] : List Str).length → bindArgs (PySem.W.fnOf "best" "Keeper.best" (defArgs (inClass (top 94) 5)) (defBody (inClass (top 94) 5)) (defScope (inClass (top 94) 5)) .none kV doc pm an cdv ct) ⟨us, []⟩ = pure ((["self"] : List Str).zip us) := fun _ _ _ _ _ _ us hl => match us, hl with | [_], _ => rfl
theorem bf_Keeper_steps : ∀ (kV doc pm : Value) (an : Option Addr) (cdv ct : Value) (us : List Value), us.length = (["self"] : List Str).length → bindArgs (PySem.W.fnOf "steps" "Keeper.steps" (defArgs (inClass (top 94) 6)) (defBody (inClass (top 94) 6)) (defScope (inClass (top 94) 6)) .none kV doc pm an cdv ct) ⟨us, []⟩ = pure ((["self"] : List Str).zip us) := fun _ _ _ _ _ _ us hl => match us, hl with | [_], _ => rfl
theorem bf_Keeper_few : ∀ (kV doc pm : Value) (an : Option Addr) (cdv ct : Value) (us : List Value), us.length = (["self", "most"] : List Str).length → bindArgs (PySem.W.fnOf "few" "Keeper.few" (defArgs (inClass (top 94) 7)) (defBody (inClass (top 94) 7)) (defScope (inClass (top 94) 7)) .none kV doc pm an cdv ct) ⟨us, []⟩ = pure ((["self", "most"] : List Str).zip us) := fun _ _ _ _ _ _ us hl => match us, hl with | [_, _], _ => rfl
theorem bf_Keeper_price : ∀ (kV doc pm : Value) (an : Option Addr) (cdv ct : Value) (us : List Value), us.length = (["self", "told"] : List Str).length → bindArgs (PySem.W.fnOf "price" "Keeper.price" (defArgs (inClass (top 94) 8)) (defBody (inClass (top 94) 8)) (defScope (inClass (top 94) 8)) .none kV doc pm an cdv ct) ⟨us, []⟩ = pure ((["self", "told"] : List Str).zip us) := fun _ _ _ _ _ _ us hl => match us, hl with | [_, _], _ => rfl
theorem bf_Keeper_why : ∀ (kV doc pm : Value) (an : Option Addr) (cdv ct : Value) (us : List Value), us.length = (["self", "grouping"] : List Str).length → bindArgs (PySem.W.fnOf "why" "Keeper.why" (defArgs (inClass (top 94) 9)) (defBody (inClass (top 94) 9)) (defScope (inClass (top 94) 9)) .none kV doc pm an cdv ct) ⟨us, []⟩ = pure ((["self", "grouping"] : List Str).zip us) := fun _ _ _ _ _ _ us hl => match us, hl with | [_, _], _ => rfl
theorem bf_Keeper_curve : ∀ (kV doc pm : Value) (an : Option Addr) (cdv ct : Value) (us : List Value), us.length = (["self"] : List Str).length → bindArgs (PySem.W.fnOf "curve" "Keeper.curve" (defArgs (inClass (top 94) 10)) (defBody (inClass (top 94) 10)) (defScope (inClass (top 94) 10)) .none kV doc pm an cdv ct) ⟨us, []⟩ = pure ((["self"] : List Str).zip us) := fun _ _ _ _ _ _ us hl => match us, hl with | [_], _ => rfl
theorem bf_Keeper_every_set : ∀ (kV doc pm : Value) (an : Option Addr) (cdv ct : Value) (us : List Value), us.length = (["self"] : List Str).length → bindArgs (PySem.W.fnOf "every_set" "Keeper.every_set" (defArgs (inClass (top 94) 11)) (defBody (inClass (top 94) 11)) (defScope (inClass (top 94) 11)) .none kV doc pm an cdv ct) ⟨us, []⟩ = pure ((["self"] : List Str).zip us) := fun _ _ _ _ _ _ us hl => match us, hl with | [_], _ => rfl
theorem bf_Keeper_best_kept : ∀ (kV doc pm : Value) (an : Option Addr) (cdv ct : Value) (us : List Value), us.length = (["self"] : List Str).length → bindArgs (PySem.W.fnOf "best_kept" "Keeper.best_kept" (defArgs (inClass (top 94) 12)) (defBody (inClass (top 94) 12)) (defScope (inClass (top 94) 12)) .none kV doc pm an cdv ct) ⟨us, []⟩ = pure ((["self"] : List Str).zip us) := fun _ _ _ _ _ _ us hl => match us, hl with | [_], _ => rfl
theorem bf_Keeper_is_grouping : ∀ (kV doc pm : Value) (an : Option Addr) (cdv ct : Value) (us : List Value), us.length = (["self", "number"] : List Str).length → bindArgs (PySem.W.fnOf "is_grouping" "Keeper.is_grouping" (defArgs (inClass (top 94) 13)) (defBody (inClass (top 94) 13)) (defScope (inClass (top 94) 13)) .none kV doc pm an cdv ct) ⟨us, []⟩ = pure ((["self", "number"] : List Str).zip us) := fun _ _ _ _ _ _ us hl => match us, hl with | [_, _], _ => rfl
theorem bf_Keeper_has_room : ∀ (kV doc pm : Value) (an : Option Addr) (cdv ct : Value) (us : List Value), us.length = (["self", "lines"] : List Str).length → bindArgs (PySem.W.fnOf "has_room" "Keeper.has_room" (defArgs (inClass (top 94) 14)) (defBody (inClass (top 94) 14)) (defScope (inClass (top 94) 14)) .none kV doc pm an cdv ct) ⟨us, []⟩ = pure ((["self", "lines"] : List Str).zip us) := fun _ _ _ _ _ _ us hl => match us, hl with | [_, _], _ => rfl
theorem bf_Keeper_cost_beyond : ∀ (kV doc pm : Value) (an : Option Addr) (cdv ct : Value) (us : List Value), us.length = (["self", "kept", "others"] : List Str).length → bindArgs (PySem.W.fnOf "cost_beyond" "Keeper.cost_beyond" (defArgs (inClass (top 94) 15)) (defBody (inClass (top 94) 15)) (defScope (inClass (top 94) 15)) .none kV doc pm an cdv ct) ⟨us, []⟩ = pure ((["self", "kept", "others"] : List Str).zip us) := fun _ _ _ _ _ _ us hl => match us, hl with | [_, _, _], _ => rfl
theorem bf_Keeper_told_set : ∀ (kV doc pm : Value) (an : Option Addr) (cdv ct : Value) (us : List Value), us.length = (["self", "kept"] : List Str).length → bindArgs (PySem.W.fnOf "told_set" "Keeper.told_set" (defArgs (inClass (top 94) 16)) (defBody (inClass (top 94) 16)) (defScope (inClass (top 94) 16)) .none kV doc pm an cdv ct) ⟨us, []⟩ = pure ((["self", "kept"] : List Str).zip us) := fun _ _ _ _ _ _ us hl => match us, hl with | [_, _], _ => rfl
theorem bf_Keeper_told_few : ∀ (kV doc pm : Value) (an : Option Addr) (cdv ct : Value) (us : List Value), us.length = (["self", "kept"] : List Str).length → bindArgs (PySem.W.fnOf "told_few" "Keeper.told_few" (defArgs (inClass (top 94) 17)) (defBody (inClass (top 94) 17)) (defScope (inClass (top 94) 17)) .none kV doc pm an cdv ct) ⟨us, []⟩ = pure ((["self", "kept"] : List Str).zip us) := fun _ _ _ _ _ _ us hl => match us, hl with | [_, _], _ => rfl
theorem last_mk {P : Program} {w : World} {K : PySem.W.Frag} {h : Heap} {mg : Str → Option Value} {fa C0 C1 C2 C3 C4 C5 C6 fA : Addr} (X : K.In h) (G : h.Ns mainGlobals mg) (hfa : mg "answers" = some (.ref fa))
    {od an : Option Addr} {sl : Array (Option Value)} {oc kV dc pm cd ct : Value}
    (g0 : PySem.W.nsIn K mainGlobals "Groupings" = some (some (.ref C0))) (g1 : PySem.W.nsIn K mainGlobals "AllSets" = some (some (.ref C1))) (g2 : PySem.W.nsIn K mainGlobals "Fault" = some (some (.ref C2))) (g3 : PySem.W.nsIn K mainGlobals "Token" = some (some (.ref C3))) (g4 : PySem.W.nsIn K mainGlobals "Table" = some (some (.ref C4))) (g5 : PySem.W.nsIn K mainGlobals "Reader" = some (some (.ref C5))) (g6 : PySem.W.nsIn K mainGlobals "Keeper" = some (some (.ref C6)))
    (aA : PySem.W.nsIn K mainGlobals "answers" = some (some (.ref fA))) (lA : K.lookup fA = some ⟨oc, od, .func (PySem.W.fnOf "answers" "answers" (defArgs (top 95)) (defBody (top 95)) (defScope (top 95)) .none kV dc pm an cd ct), sl⟩) (cA : PySem.W.codeIn K cd "answers" = true) (kA : PySem.W.keepIn K (.ref fA) = true)
    (T : Txt K mg ⟨C0, C1, C2, C3, C4, C5, C6⟩) :
    ∃ fd : FuncData, (∀ (s : Shared) (us : List Value), us.length = (["calls"] : List Str).length → BindsTo s fd ⟨us, []⟩ ((["calls"] : List Str).zip us)) ∧ ∀ base : Heap, K.In base → base.Ns mainGlobals mg → FnOk P w K mg base CX0 10 fa fd ["calls"] (spAnswers K) := by
  have e := hfa.symm.trans (PySem.W.mg_of X G aA)
  cases e
  exact ⟨_, fun s us hu => match us, hu with | [_], _ => .of_eq rfl, fun base _ _ => fn_answers T (fun_mk (st := top 95) lA cA kA)⟩
/-! the request -/
theorem row_dec {r x s : List Int} (h : PyFlat.row r = some (x, s)) : r = (x.length : Int) :: x ++ s := by
  cases r with
  | nil => cases h
  | cons n r =>
    have e : PyFlat.row (n :: r) = if 0 ≤ n ∧ n.toNat ≤ r.length then some (r.take n.toNat, r.drop n.toNat) else none := rfl
    rw [e] at h
    by_cases hn : 0 ≤ n ∧ n.toNat ≤ r.length
    · rw [if_pos hn] at h
      injection h with h
      injection h with h1 h2
      subst h1 h2
      rw [List.length_take, Nat.min_eq_left hn.2, show ((n.toNat : Nat) : Int) = n by omega, List.cons_append, List.take_append_drop]
    · rw [if_neg hn] at h
      cases h
theorem one_row {r : List Int} {rows : List (List Int)} {t : List Int} (h : PyFlat.rows 1 r = some (rows, t)) : ∃ x, rows = [x] ∧ r = (x.length : Int) :: x ++ t := by
  unfold PyFlat.rows at h
  cases hr : PyFlat.row r with
  | none => rw [hr] at h; cases h
  | some xs =>
    obtain ⟨x, s⟩ := xs
    rw [hr] at h
    simp only [PyFlat.rows] at h
    injection h with h
    injection h with h1 h2
    subst h1 h2
    exact ⟨x, rfl, row_dec hr⟩
theorem no_row {r : List Int} {rows : List (List Int)} {t : List Int} (h : PyFlat.rows 0 r = some (rows, t)) : rows = [] ∧ t = r := by
  injection h with h
  injection h with h1 h2
  exact ⟨h1.symm, h2.symm⟩
theorem bytes_told {x : List Int} (h1 : x.all (fun z => VamvsbNeutral.natural z 8) = true) : x = (VamvsbNeutral.bytesOf x).map fun b => (b.toNat : Int) := by
  unfold VamvsbNeutral.bytesOf
  rw [List.map_map]
  refine ((List.map_id' x).symm).trans (List.map_congr_left fun z hz => ?_)
  have := List.all_eq_true.mp h1 z hz
  unfold VamvsbNeutral.natural at this
  rw [Bool.and_eq_true, decide_eq_true_iff, decide_eq_true_iff] at this
  have h2 : z < 256 := this.2
  show z = (((UInt8.ofNat z.toNat).toNat : Nat) : Int)
  rw [u8_nat (by omega)]
  omega
theorem call_eq (p : Int) (r : List Int) : PyFlat.call PyVamvsb.shape (p :: r) = match PyVamvsb.shape p with
      | none => none
      | some (n, k) => if r.length < n then none else match PyFlat.rows k (r.drop n) with
        | none => none
        | some (xs, t) => some ((p :: r.take n) :: xs, t) := rfl
/-- one call, decoded -/
theorem call_dec {p : Int} {r : List Int} {c : List (List Int)} {t : List Int} (h : PyFlat.call PyVamvsb.shape (p :: r) = some (c, t)) (ha : VamvsbNeutral.asked1 (PyVamvsb.whole c) = true) : ∃ x : Int × List Int, p :: r = encC x ++ t ∧ PyVamvsb.whole c = rowC x ∧ CallIn x.1 x.2 := by
  have hp : p = 0 ∨ p = 1 ∨ p = 2 ∨ p = 3 ∨ p = 4 ∨ p = 5 ∨ p = 6 ∨ p = 7 ∨ p = 8 := by
    rw [call_eq] at h
    cases hs : PyVamvsb.shape p with
    | none => rw [hs] at h; cases h
    | some nk =>
      unfold PyVamvsb.shape at hs
      repeat' split at hs
      all_goals first | omega | cases hs
  have listed : ∀ (m : Int), p = m → (m = 0 ∨ m = 6) → PyVamvsb.shape m = some (0, 1) → ∃ x, c = [[m], x] ∧ r = (x.length : Int) :: x ++ t := fun m e _ hs => by
    subst e
    rw [call_eq] at h
    rw [hs] at h
    simp only [Nat.not_lt_zero, if_false, List.drop_zero] at h
    cases hr : PyFlat.rows 1 r with
    | none => rw [hr] at h; cases h
    | some xt =>
      obtain ⟨xs, t'⟩ := xt
      rw [hr] at h
      simp only at h
      injection h with h
      injection h with h1 h2
      obtain ⟨x, e1, e2⟩ := one_row hr
      subst h2
      exact ⟨x, by rw [← h1, e1]; rfl, e2⟩
  have plain : ∀ (m : Int) (n : Nat), p = m → PyVamvsb.shape m = some (n, 0) → n ≤ r.length ∧ c = [m :: r.take n] ∧ t = r.drop n := fun m n e hs => by
    subst e
    rw [call_eq] at h
    rw [hs] at h
    simp only at h
    split at h
    · cases h
    · rename_i hn
      cases hr : PyFlat.rows 0 (r.drop n) with
      | none => rw [hr] at h; cases h
      | some xt =>
        obtain ⟨xs, t'⟩ := xt
        rw [hr] at h
        simp only at h
        injection h with h
        injection h with h1 h2
        obtain ⟨e1, e2⟩ := no_row hr
        exact ⟨by omega, by rw [← h1, e1], by rw [← h2, e2]⟩
  have none0 : ∀ m : Int, p = m → PyVamvsb.shape m = some (0, 0) → c = [[m]] ∧ t = r := fun m e hs => by
    obtain ⟨_, h1, h2⟩ := plain m 0 e hs
    exact ⟨h1, h2⟩
  have one1 : ∀ m : Int, p = m → PyVamvsb.shape m = some (1, 0) → ∃ a, c = [[m, a]] ∧ r = a :: t := fun m e hs => by
    obtain ⟨h0, h1, h2⟩ := plain m 1 e hs
    cases r with
    | nil => simp at h0
    | cons a r => exact ⟨a, h1, by rw [h2]; rfl⟩
  rcases hp with e | e | e | e | e | e | e | e | e
  · obtain ⟨x, h1, h2⟩ := listed 0 e (.inl rfl) rfl
    subst h1 e
    have ha' : (x.all (fun z => VamvsbNeutral.natural z 8) && decide (x.length ≤ 8192)) = true := ha
    rw [Bool.and_eq_true, decide_eq_true_iff] at ha'
    refine ⟨(0, x), by rw [h2]; rfl, rfl, ?_⟩
    have := bytes_told ha'.1
    have hl : (VamvsbNeutral.bytesOf x).length ≤ 8192 := by unfold VamvsbNeutral.bytesOf; rw [List.length_map]; exact ha'.2
    show CallIn 0 x
    rw [this]
    exact .load _ hl
  · obtain ⟨h1, h2⟩ := none0 1 e rfl
    subst h1 h2 e
    exact ⟨(1, []), rfl, rfl, .shown⟩
  · obtain ⟨h0, h1, h2⟩ := plain 2 2 e rfl
    match r, h0 with
    | a :: b :: r, _ =>
      subst h1 h2 e
      exact ⟨(2, [a, b]), rfl, rfl, .terms a b⟩
  · obtain ⟨h1, h2⟩ := none0 3 e rfl
    subst h1 h2 e
    exact ⟨(3, []), rfl, rfl, .best⟩
  · obtain ⟨h1, h2⟩ := none0 4 e rfl
    subst h1 h2 e
    exact ⟨(4, []), rfl, rfl, .steps⟩
  · obtain ⟨a, h1, h2⟩ := one1 5 e rfl
    subst h1 h2 e
    exact ⟨(5, [a]), rfl, rfl, .few a⟩
  · obtain ⟨x, h1, h2⟩ := listed 6 e (.inr rfl) rfl
    subst h1 e
    have ha' : (x.all VamvsbNeutral.whole60 && decide (x.length ≤ 2000)) = true := ha
    rw [Bool.and_eq_true, decide_eq_true_iff] at ha'
    exact ⟨(6, x), by rw [h2]; rfl, rfl, .price x ha'.2⟩
  · obtain ⟨a, h1, h2⟩ := one1 7 e rfl
    subst h1 h2 e
    exact ⟨(7, [a]), rfl, rfl, .why a⟩
  · obtain ⟨h1, h2⟩ := none0 8 e rfl
    subst h1 h2 e
    exact ⟨(8, []), rfl, rfl, .curve⟩
theorem calls_dec : ∀ (f : Nat) (ns : List Int) (raw : List (List (List Int))), PyFlat.calls PyVamvsb.shape f ns = some raw → (raw.map PyVamvsb.whole).all VamvsbNeutral.asked1 = true → ∃ cs : List (Int × List Int), ns = cs.flatMap encC ∧ raw.map PyVamvsb.whole = cs.map rowC ∧ ∀ x ∈ cs, CallIn x.1 x.2
  | f, [], raw, h, _ => by
    have h : some [] = some raw := by rw [← h]; cases f <;> rfl
    injection h with h
    subst h
    exact ⟨[], rfl, rfl, fun x hx => absurd hx List.not_mem_nil⟩
  | 0, _ :: _, raw, h, _ => by cases h
  | f + 1, p :: r, raw, h, ha => by
    unfold PyFlat.calls at h
    cases hc : PyFlat.call PyVamvsb.shape (p :: r) with
    | none => rw [hc] at h; cases h
    | some ct =>
      obtain ⟨c, t⟩ := ct
      rw [hc] at h
      simp only at h
      cases hr : PyFlat.calls PyVamvsb.shape f t with
      | none => rw [hr] at h; cases h
      | some rest =>
        rw [hr] at h
        simp only at h
        injection h with h
        subst h
        rw [List.map_cons, List.all_cons, Bool.and_eq_true] at ha
        obtain ⟨x, e1, e2, e3⟩ := call_dec hc ha.1
        obtain ⟨cs, i1, i2, i3⟩ := calls_dec f t rest hr ha.2
        refine ⟨x :: cs, by rw [e1, i1, List.flatMap_cons], by rw [List.map_cons, List.map_cons, e2, i2], fun y hy => ?_⟩
        rcases List.mem_cons.mp hy with e | hy
        · rw [e]; exact e3
        · exact i3 y hy
theorem asked_dec {ns : List Int} (h : PyVamvsb.answers_asked ns = true) : ∃ cs : List (Int × List Int), ns = cs.flatMap encC ∧ (∀ x ∈ cs, CallIn x.1 x.2) ∧ toldOut none cs = PyVamvsb.answers ns ∧ (toldOut none cs).length ≤ 10000000 := by
  unfold PyVamvsb.answers_asked at h
  cases hc : PyFlat.calls PyVamvsb.shape ns.length ns with
  | none => rw [hc] at h; cases h
  | some raw =>
    rw [hc] at h
    simp only [Bool.and_eq_true] at h
    obtain ⟨⟨_, h4⟩, h5⟩ := h
    unfold VamvsbNeutral.asked at h4
    rw [Bool.and_eq_true] at h4
    obtain ⟨cs, e1, e2, e3⟩ := calls_dec _ _ _ hc h4.1
    have e4 : toldOut none cs = PyVamvsb.answers ns := by
      unfold toldOut PyVamvsb.answers PyVamvsb.calls
      rw [hc, ← e2]; rfl
    refine ⟨cs, e1, e3, e4, ?_⟩
    rw [e4]
    exact of_decide_eq_true h5
section
variable {K : PySem.W.Frag} {H : Hp} {xs : List V} {a : PySem.W.Codec.denoteAll PySem.Challenge.rw_bestkept_s01_answers.args}
theorem last_in (hask : PySem.W.Codec.app PySem.Challenge.rw_bestkept_s01_answers.args PySem.Challenge.rw_bestkept_s01_answers.asked a = true) (hx : L2.DwAll K H xs (PySem.W.Codec.encAll PySem.Challenge.rw_bestkept_s01_answers.args a)) :
    spAnswers K xs H (fun v H' => L2.Dw K H' v (PySem.Challenge.rw_bestkept_s01_answers.ret.enc (PySem.W.Codec.app PySem.Challenge.rw_bestkept_s01_answers.args PySem.Challenge.rw_bestkept_s01_answers.f a))) fun _ _ _ => False := by
  cases hx with
  | cons h1 h2 =>
    cases h2
    cases h1 with
    | lst hs ha =>
      have e := L2.ints_dw a.1 _ ha
      subst e
      obtain ⟨cs, e1, e2, e3, e4⟩ := asked_dec (ns := a.1) hask
      refine ⟨_, a.1, cs, rfl, hs, e1, e2, e4, fun p H' k hp hp2 => ?_⟩
      have e5 : PySem.Challenge.rw_bestkept_s01_answers.ret.enc (PySem.W.Codec.app PySem.Challenge.rw_bestkept_s01_answers.args PySem.Challenge.rw_bestkept_s01_answers.f a) = .list ((toldOut none cs).map PySem.W.WData.int) := by
        rw [e3]; rfl
      rw [e5]
      exact .lst (L2.SqL.of hp2) (L2.dw_ints _)
end
end Bk
end
open PySem PySem.W PyProof.Rows
set_option maxRecDepth 100000 in
set_option maxHeartbeats 0 in
theorem PySem.Challenge.cw_bestkept_s01_answers_holds : PySem.Challenge.rw_bestkept_s01_answers.Holds := by
  w_on; k_headS; (case hw => exact ⟨[.list [.int 3]], by decide +kernel, by decide +kernel⟩)
  k_fillS
  refine L2.walk_specK (r := PySem.Challenge.rw_bestkept_s01_answers) (k := 10) (CX := L2.CX0) (ps := ["calls"]) (sp := Bk.spAnswers) (by decide +kernel) rfl rfl ⟨rfl, by decide, by decide⟩ (fun w h Y => PySem.W.kIn_of Y) ?zqF ?zqS (fun _ _ _ _ z => z)
  case zqF =>
    intro w mg fa h Y KX G hmg
    refine' Bk.last_mk KX G hmg ?zqg0 ?zqg1 ?zqg2 ?zqg3 ?zqg4 ?zqg5 ?zqg6 ?zqaA ?zqlA ?zqcA ?zqkA ?zqT
    (case zqg0 => k_is)
    (case zqg1 => k_is)
    (case zqg2 => k_is)
    (case zqg3 => k_is)
    (case zqg4 => k_is)
    (case zqg5 => k_is)
    (case zqg6 => k_is)
    (case zqaA => k_is); (case zqlA => k_is); (case zqcA => k_is); (case zqkA => k_is)
    case zqT =>
      refine' ⟨?zqn_Exception, ?zqn_all, ?zqn_enumerate, ?zqn_int, ?zqn_len, ?zqn_list, ?zqn_min, ?zqn_ord, ?zqn_range, ?zqn_set, ?zqn_sorted, ?zqn_str, ?zqn_sum, ?zqn_tuple, ?zqn_zip, ?zqc_COST_OF_CHANGE, ?zqc_MOST_NAME_BYTES, ?zqc_GREATEST_NUMBER, ?zqc_MOST_DIGITS, ?zqc_LETTERS, ?zqc_DIGITS, ?zqc_SIGNS, ?zqc_BLANKS, ?zqc_REMARK, ?zqc_STRANGE, ?zqc_WORDS, ?zqc_MOST_BYTES, ?zqc_MOST_COLUMNS, ?zqc_MOST_ROWS, ?zqc_MOST_QUESTIONS, ?zqc_GREATEST_VALUE, ?zqc_GREATEST_AMOUNT, ?zqc_MOST_TIMES, ?zqc_LOAD, ?zqc_SHOWN, ?zqc_TERMS, ?zqc_BEST, ?zqc_STEPS, ?zqc_FEW, ?zqc_PRICE, ?zqc_WHY, ?zqc_NUMBERS_TOLD, ?zqc_WITH_LIST, ?zqc_NO_TABLE, ?zqc_NO_SUCH_GROUPING, ?zqc_NO_SUCH_COUNT, ?zqc_NO_SUCH_ROOM, ?zqc_NO_SUCH_CHANGES, ?zqc_MOST_ROOM, ?zqc_MOST_CHANGES, ?zqc_MOST_FEW, ?zqc_FIRST_ROOM, ?zqc_FIRST_CHANGES, ?zqg_Groupings, ?zqk_Groupings, ?zqa_Groupings_whole, ?zqa_Groupings_asked, ?zqa_Groupings_sizes, ?zqi_Groupings, ?zqg_AllSets, ?zqk_AllSets, ?zqa_AllSets_readings, ?zqa_AllSets_lines, ?zqa_AllSets_kept_counts, ?zqi_AllSets, ?zqk_Fault, ?zqa_Fault_code, ?zqa_Fault_place, ?zqg_Token, ?zqk_Token, ?zqa_Token_kind, ?zqa_Token_told, ?zqa_Token_place, ?zqa_Token_behind, ?zqi_Token, ?zqg_Table, ?zqk_Table, ?zqa_Table_columns, ?zqa_Table_rows, ?zqa_Table_questions, ?zqi_Table, ?zqg_Reader, ?zqk_Reader, ?zqa_Reader_tokens, ?zqa_Reader_at, ?zqi_Reader, ?zqm_Reader_sees, ?zqm_Reader_take, ?zqg_Keeper, ?zqk_Keeper, ?zqa_Keeper_table, ?zqa_Keeper_groupings, ?zqa_Keeper_sets, ?zqa_Keeper_room, ?zqa_Keeper_changes, ?zqi_Keeper, ?zqm_Keeper_answer, ?zqm_Keeper_load, ?zqm_Keeper_shown, ?zqm_Keeper_set_terms, ?zqm_Keeper_best, ?zqm_Keeper_steps, ?zqm_Keeper_few, ?zqm_Keeper_price, ?zqm_Keeper_why, ?zqm_Keeper_curve, ?zqm_Keeper_every_set, ?zqm_Keeper_best_kept, ?zqm_Keeper_is_grouping, ?zqm_Keeper_has_room, ?zqm_Keeper_cost_beyond, ?zqm_Keeper_told_set, ?zqm_Keeper_told_few, ?zqd_size_of, ?zqd_told_apart, ?zqd_has_all, ?zqd_all_lines, ?zqd_all_readings, ?zqd_all_read, ?zqd_best_set, ?zqd_best_few, ?zqd_least_of, ?zqd_cost_by_number, ?zqd_members, ?zqd_rooms_that_bring, ?zqd_step_by_step, ?zqd_few_step_by_step, ?zqd_steps_at_most, ?zqd_best_step, ?zqd_lines_of, ?zqd_cost_of, ?zqd_reading_of, ?zqd_what_is_read, ?zqd_questions_that_read, ?zqd_upkeep, ?zqd_tokens_of, ?zqd_as_signs, ?zqd_past_blanks, ?zqd_remark_end, ?zqd_token_at, ?zqd_number_at, ?zqd_is_number, ?zqd_name_at, ?zqd_run_end, ?zqd_read_table, ?zqd_read_columns, ?zqd_read_new_name, ?zqd_read_row, ?zqd_read_amount, ?zqd_read_number, ?zqd_read_question, ?zqd_read_grouping, ?zqd_read_column_bit, ?zqd_one_form, ?zqd_columns_line, ?zqd_row_line, ?zqd_question_line, ?zqd_names_of, ?zqd_answers, ?zqd_told_begin, ?zqd_told_end⟩
      (case zqn_Exception => (refine' PySem.W.mg_none_of KX G ?zqa; (case zqa => k_is)))
      (case zqn_all => (refine' PySem.W.mg_none_of KX G ?zqa; (case zqa => k_is)))
      (case zqn_enumerate => (refine' PySem.W.mg_none_of KX G ?zqa; (case zqa => k_is)))
      (case zqn_int => (refine' PySem.W.mg_none_of KX G ?zqa; (case zqa => k_is)))
      (case zqn_len => (refine' PySem.W.mg_none_of KX G ?zqa; (case zqa => k_is)))
      (case zqn_list => (refine' PySem.W.mg_none_of KX G ?zqa; (case zqa => k_is)))
      (case zqn_min => (refine' PySem.W.mg_none_of KX G ?zqa; (case zqa => k_is)))
      (case zqn_ord => (refine' PySem.W.mg_none_of KX G ?zqa; (case zqa => k_is)))
      (case zqn_range => (refine' PySem.W.mg_none_of KX G ?zqa; (case zqa => k_is)))
      (case zqn_set => (refine' PySem.W.mg_none_of KX G ?zqa; (case zqa => k_is)))
      (case zqn_sorted => (refine' PySem.W.mg_none_of KX G ?zqa; (case zqa => k_is)))
      (case zqn_str => (refine' PySem.W.mg_none_of KX G ?zqa; (case zqa => k_is)))
      (case zqn_sum => (refine' PySem.W.mg_none_of KX G ?zqa; (case zqa => k_is)))
      (case zqn_tuple => (refine' PySem.W.mg_none_of KX G ?zqa; (case zqa => k_is)))
      (case zqn_zip => (refine' PySem.W.mg_none_of KX G ?zqa; (case zqa => k_is)))
      (case zqc_COST_OF_CHANGE => (refine' Bk.HasC.int KX G ?zqa; (case zqa => k_is)))
      (case zqc_MOST_NAME_BYTES => (refine' Bk.HasC.int KX G ?zqa; (case zqa => k_is)))
      (case zqc_GREATEST_NUMBER => (refine' Bk.HasC.int KX G ?zqa; (case zqa => k_is)))
      (case zqc_MOST_DIGITS => (refine' Bk.HasC.int KX G ?zqa; (case zqa => k_is)))
      (case zqc_LETTERS => (refine' Bk.HasC.str KX G ?zqa ?zqe; (case zqa => k_is); (case zqe => decide +kernel)))
      (case zqc_DIGITS => (refine' Bk.HasC.str KX G ?zqa ?zqe; (case zqa => k_is); (case zqe => decide +kernel)))
      (case zqc_SIGNS => (refine' Bk.HasC.str KX G ?zqa ?zqe; (case zqa => k_is); (case zqe => decide +kernel)))
      (case zqc_BLANKS => (refine' Bk.HasC.str KX G ?zqa ?zqe; (case zqa => k_is); (case zqe => decide +kernel)))
      (case zqc_REMARK => (refine' Bk.HasC.str KX G ?zqa ?zqe; (case zqa => k_is); (case zqe => decide +kernel)))
      (case zqc_STRANGE => (refine' Bk.HasC.str KX G ?zqa ?zqe; (case zqa => k_is); (case zqe => decide +kernel)))
      (case zqc_WORDS => (refine' Bk.HasT.mk KX G ?zqa ?zql ?zqz ?zqv; (case zqa => k_is); (case zql => k_is); (case zqz => decide +kernel); (case zqv => exact (.cons (Bk.str_rel (by decide +kernel)) (.cons (Bk.str_rel (by decide +kernel)) (.cons (Bk.str_rel (by decide +kernel)) (.cons (Bk.str_rel (by decide +kernel)) .nil)))))))
      (case zqc_MOST_BYTES => (refine' Bk.HasC.int KX G ?zqa; (case zqa => k_is)))
      (case zqc_MOST_COLUMNS => (refine' Bk.HasC.int KX G ?zqa; (case zqa => k_is)))
      (case zqc_MOST_ROWS => (refine' Bk.HasC.int KX G ?zqa; (case zqa => k_is)))
      (case zqc_MOST_QUESTIONS => (refine' Bk.HasC.int KX G ?zqa; (case zqa => k_is)))
      (case zqc_GREATEST_VALUE => (refine' Bk.HasC.int KX G ?zqa; (case zqa => k_is)))
      (case zqc_GREATEST_AMOUNT => (refine' Bk.HasC.int KX G ?zqa; (case zqa => k_is)))
      (case zqc_MOST_TIMES => (refine' Bk.HasC.int KX G ?zqa; (case zqa => k_is)))
      (case zqc_LOAD => (refine' Bk.HasC.int KX G ?zqa; (case zqa => k_is)))
      (case zqc_SHOWN => (refine' Bk.HasC.int KX G ?zqa; (case zqa => k_is)))
      (case zqc_TERMS => (refine' Bk.HasC.int KX G ?zqa; (case zqa => k_is)))
      (case zqc_BEST => (refine' Bk.HasC.int KX G ?zqa; (case zqa => k_is)))
      (case zqc_STEPS => (refine' Bk.HasC.int KX G ?zqa; (case zqa => k_is)))
      (case zqc_FEW => (refine' Bk.HasC.int KX G ?zqa; (case zqa => k_is)))
      (case zqc_PRICE => (refine' Bk.HasC.int KX G ?zqa; (case zqa => k_is)))
      (case zqc_WHY => (refine' Bk.HasC.int KX G ?zqa; (case zqa => k_is)))
      (case zqc_NUMBERS_TOLD => (refine' Bk.HasT.mk KX G ?zqa ?zql ?zqz ?zqv; (case zqa => k_is); (case zql => k_is); (case zqz => decide +kernel); (case zqv => exact (.cons ⟨_, rfl⟩ (.cons ⟨_, rfl⟩ (.cons ⟨_, rfl⟩ (.cons ⟨_, rfl⟩ (.cons ⟨_, rfl⟩ (.cons ⟨_, rfl⟩ (.cons ⟨_, rfl⟩ (.cons ⟨_, rfl⟩ (.cons ⟨_, rfl⟩ .nil))))))))))))
      (case zqc_WITH_LIST => (refine' Bk.HasT.mk KX G ?zqa ?zql ?zqz ?zqv; (case zqa => k_is); (case zql => k_is); (case zqz => decide +kernel); (case zqv => exact (.cons ⟨_, rfl⟩ (.cons ⟨_, rfl⟩ .nil)))))
      (case zqc_NO_TABLE => (refine' Bk.HasC.int KX G ?zqa; (case zqa => k_is)))
      (case zqc_NO_SUCH_GROUPING => (refine' Bk.HasC.int KX G ?zqa; (case zqa => k_is)))
      (case zqc_NO_SUCH_COUNT => (refine' Bk.HasC.int KX G ?zqa; (case zqa => k_is)))
      (case zqc_NO_SUCH_ROOM => (refine' Bk.HasC.int KX G ?zqa; (case zqa => k_is)))
      (case zqc_NO_SUCH_CHANGES => (refine' Bk.HasC.int KX G ?zqa; (case zqa => k_is)))
      (case zqc_MOST_ROOM => (refine' Bk.HasC.int KX G ?zqa; (case zqa => k_is)))
      (case zqc_MOST_CHANGES => (refine' Bk.HasC.int KX G ?zqa; (case zqa => k_is)))
      (case zqc_MOST_FEW => (refine' Bk.HasC.int KX G ?zqa; (case zqa => k_is)))
      (case zqc_FIRST_ROOM => (refine' Bk.HasC.int KX G ?zqa; (case zqa => k_is)))
      (case zqc_FIRST_CHANGES => (refine' Bk.HasC.int KX G ?zqa; (case zqa => k_is)))
      (case zqg_Groupings => (refine' PySem.W.mg_of KX G ?zqa; (case zqa => k_is)))
      (case zqk_Groupings => (refine' ⟨?zqa, ?zqb, ?zqc, ?zqd⟩; (case zqa => k_is); (case zqb => k_is); (case zqc => k_is); (case zqd => k_is)))
      (case zqa_Groupings_whole => (show PySem.W.findIn _ _ _ = some none; k_is))
      (case zqa_Groupings_asked => (show PySem.W.findIn _ _ _ = some none; k_is))
      (case zqa_Groupings_sizes => (show PySem.W.findIn _ _ _ = some none; k_is))
      (case zqi_Groupings => (refine' Bk.HasMk.make KX G ?zqm ?zqa ?zqi ?zqkc ?zql ?zqc ?zqk Bk.bf_Groupings_init; (case zqm => k_is); (case zqa => k_is); (case zqi => k_is); (case zqkc => k_is); (case zql => k_is); (case zqc => k_is); (case zqk => k_is)))
      (case zqg_AllSets => (refine' PySem.W.mg_of KX G ?zqa; (case zqa => k_is)))
      (case zqk_AllSets => (refine' ⟨?zqa, ?zqb, ?zqc, ?zqd⟩; (case zqa => k_is); (case zqb => k_is); (case zqc => k_is); (case zqd => k_is)))
      (case zqa_AllSets_readings => (show PySem.W.findIn _ _ _ = some none; k_is))
      (case zqa_AllSets_lines => (show PySem.W.findIn _ _ _ = some none; k_is))
      (case zqa_AllSets_kept_counts => (show PySem.W.findIn _ _ _ = some none; k_is))
      (case zqi_AllSets => (refine' Bk.HasMk.make KX G ?zqm ?zqa ?zqi ?zqkc ?zql ?zqc ?zqk Bk.bf_AllSets_init; (case zqm => k_is); (case zqa => k_is); (case zqi => k_is); (case zqkc => k_is); (case zql => k_is); (case zqc => k_is); (case zqk => k_is)))
      (case zqk_Fault => (refine' Bk.HasErr.mk KX G ?zqg ?zqx ?zqsa ?zqsi ?zqty ?zqkp ?zqga ?zqgg ?zqhd ?zqic ?zqsc ?zqfc ?zqa ?zqt ?zql ?zqc ?zqk Bk.bf_Fault_init; (case zqg => k_is); (case zqx => k_is); (case zqsa => k_is); (case zqsi => k_is); (case zqty => k_is); (case zqkp => k_is); (case zqga => k_is); (case zqgg => k_is); (case zqhd => k_is); (case zqic => k_is); (case zqsc => first | rfl | k_is); (case zqfc => k_is); (case zqa => k_is); (case zqt => k_is); (case zql => k_is); (case zqc => k_is); (case zqk => k_is)))
      (case zqa_Fault_code => (show PySem.W.findIn _ _ _ = some none; k_is))
      (case zqa_Fault_place => (show PySem.W.findIn _ _ _ = some none; k_is))
      (case zqg_Token => (refine' PySem.W.mg_of KX G ?zqa; (case zqa => k_is)))
      (case zqk_Token => (refine' ⟨?zqa, ?zqb, ?zqc, ?zqd⟩; (case zqa => k_is); (case zqb => k_is); (case zqc => k_is); (case zqd => k_is)))
      (case zqa_Token_kind => (show PySem.W.findIn _ _ _ = some none; k_is))
      (case zqa_Token_told => (show PySem.W.findIn _ _ _ = some none; k_is))
      (case zqa_Token_place => (show PySem.W.findIn _ _ _ = some none; k_is))
      (case zqa_Token_behind => (show PySem.W.findIn _ _ _ = some none; k_is))
      (case zqi_Token => (refine' Bk.HasMk.make KX G ?zqm ?zqa ?zqi ?zqkc ?zql ?zqc ?zqk Bk.bf_Token_init; (case zqm => k_is); (case zqa => k_is); (case zqi => k_is); (case zqkc => k_is); (case zql => k_is); (case zqc => k_is); (case zqk => k_is)))
      (case zqg_Table => (refine' PySem.W.mg_of KX G ?zqa; (case zqa => k_is)))
      (case zqk_Table => (refine' ⟨?zqa, ?zqb, ?zqc, ?zqd⟩; (case zqa => k_is); (case zqb => k_is); (case zqc => k_is); (case zqd => k_is)))
      (case zqa_Table_columns => (show PySem.W.findIn _ _ _ = some none; k_is))
      (case zqa_Table_rows => (show PySem.W.findIn _ _ _ = some none; k_is))
      (case zqa_Table_questions => (show PySem.W.findIn _ _ _ = some none; k_is))
      (case zqi_Table => (refine' Bk.HasMk.make KX G ?zqm ?zqa ?zqi ?zqkc ?zql ?zqc ?zqk Bk.bf_Table_init; (case zqm => k_is); (case zqa => k_is); (case zqi => k_is); (case zqkc => k_is); (case zql => k_is); (case zqc => k_is); (case zqk => k_is)))
      (case zqg_Reader => (refine' PySem.W.mg_of KX G ?zqa; (case zqa => k_is)))
      (case zqk_Reader => (refine' ⟨?zqa, ?zqb, ?zqc, ?zqd⟩; (case zqa => k_is); (case zqb => k_is); (case zqc => k_is); (case zqd => k_is)))
      (case zqa_Reader_tokens => (show PySem.W.findIn _ _ _ = some none; k_is))
      (case zqa_Reader_at => (show PySem.W.findIn _ _ _ = some none; k_is))
      (case zqi_Reader => (refine' Bk.HasMk.make KX G ?zqm ?zqa ?zqi ?zqkc ?zql ?zqc ?zqk Bk.bf_Reader_init; (case zqm => k_is); (case zqa => k_is); (case zqi => k_is); (case zqkc => k_is); (case zql => k_is); (case zqc => k_is); (case zqk => k_is)))
      (case zqm_Reader_sees => (refine' Bk.HasMeth.make KX G ?zqa ?zqi ?zqk ?zql ?zqc Bk.bf_Reader_sees; (case zqa => k_is); (case zqi => k_is); (case zqk => k_is); (case zql => k_is); (case zqc => k_is)))
      (case zqm_Reader_take => (refine' Bk.HasMeth.make KX G ?zqa ?zqi ?zqk ?zql ?zqc Bk.bf_Reader_take; (case zqa => k_is); (case zqi => k_is); (case zqk => k_is); (case zql => k_is); (case zqc => k_is)))
      (case zqg_Keeper => (refine' PySem.W.mg_of KX G ?zqa; (case zqa => k_is)))
      (case zqk_Keeper => (refine' ⟨?zqa, ?zqb, ?zqc, ?zqd⟩; (case zqa => k_is); (case zqb => k_is); (case zqc => k_is); (case zqd => k_is)))
      (case zqa_Keeper_table => (show PySem.W.findIn _ _ _ = some none; k_is))
      (case zqa_Keeper_groupings => (show PySem.W.findIn _ _ _ = some none; k_is))
      (case zqa_Keeper_sets => (show PySem.W.findIn _ _ _ = some none; k_is))
      (case zqa_Keeper_room => (show PySem.W.findIn _ _ _ = some none; k_is))
      (case zqa_Keeper_changes => (show PySem.W.findIn _ _ _ = some none; k_is))
      (case zqi_Keeper => (refine' Bk.HasMk.make KX G ?zqm ?zqa ?zqi ?zqkc ?zql ?zqc ?zqk Bk.bf_Keeper_init; (case zqm => k_is); (case zqa => k_is); (case zqi => k_is); (case zqkc => k_is); (case zql => k_is); (case zqc => k_is); (case zqk => k_is)))
      (case zqm_Keeper_answer => (refine' Bk.HasMeth.make KX G ?zqa ?zqi ?zqk ?zql ?zqc Bk.bf_Keeper_answer; (case zqa => k_is); (case zqi => k_is); (case zqk => k_is); (case zql => k_is); (case zqc => k_is)))
      (case zqm_Keeper_load => (refine' Bk.HasMeth.make KX G ?zqa ?zqi ?zqk ?zql ?zqc Bk.bf_Keeper_load; (case zqa => k_is); (case zqi => k_is); (case zqk => k_is); (case zql => k_is); (case zqc => k_is)))
      (case zqm_Keeper_shown => (refine' Bk.HasMeth.make KX G ?zqa ?zqi ?zqk ?zql ?zqc Bk.bf_Keeper_shown; (case zqa => k_is); (case zqi => k_is); (case zqk => k_is); (case zql => k_is); (case zqc => k_is)))
      (case zqm_Keeper_set_terms => (refine' Bk.HasMeth.make KX G ?zqa ?zqi ?zqk ?zql ?zqc Bk.bf_Keeper_set_terms; (case zqa => k_is); (case zqi => k_is); (case zqk => k_is); (case zql => k_is); (case zqc => k_is)))
      (case zqm_Keeper_best => (refine' Bk.HasMeth.make KX G ?zqa ?zqi ?zqk ?zql ?zqc Bk.bf_Keeper_best; (case zqa => k_is); (case zqi => k_is); (case zqk => k_is); (case zql => k_is); (case zqc => k_is)))
      (case zqm_Keeper_steps => (refine' Bk.HasMeth.make KX G ?zqa ?zqi ?zqk ?zql ?zqc Bk.bf_Keeper_steps; (case zqa => k_is); (case zqi => k_is); (case zqk => k_is); (case zql => k_is); (case zqc => k_is)))
      (case zqm_Keeper_few => (refine' Bk.HasMeth.make KX G ?zqa ?zqi ?zqk ?zql ?zqc Bk.bf_Keeper_few; (case zqa => k_is); (case zqi => k_is); (case zqk => k_is); (case zql => k_is); (case zqc => k_is)))
      (case zqm_Keeper_price => (refine' Bk.HasMeth.make KX G ?zqa ?zqi ?zqk ?zql ?zqc Bk.bf_Keeper_price; (case zqa => k_is); (case zqi => k_is); (case zqk => k_is); (case zql => k_is); (case zqc => k_is)))
      (case zqm_Keeper_why => (refine' Bk.HasMeth.make KX G ?zqa ?zqi ?zqk ?zql ?zqc Bk.bf_Keeper_why; (case zqa => k_is); (case zqi => k_is); (case zqk => k_is); (case zql => k_is); (case zqc => k_is)))
      (case zqm_Keeper_curve => (refine' Bk.HasMeth.make KX G ?zqa ?zqi ?zqk ?zql ?zqc Bk.bf_Keeper_curve; (case zqa => k_is); (case zqi => k_is); (case zqk => k_is); (case zql => k_is); (case zqc => k_is)))
      (case zqm_Keeper_every_set => (refine' Bk.HasMeth.make KX G ?zqa ?zqi ?zqk ?zql ?zqc Bk.bf_Keeper_every_set; (case zqa => k_is); (case zqi => k_is); (case zqk => k_is); (case zql => k_is); (case zqc => k_is)))
      (case zqm_Keeper_best_kept => (refine' Bk.HasMeth.make KX G ?zqa ?zqi ?zqk ?zql ?zqc Bk.bf_Keeper_best_kept; (case zqa => k_is); (case zqi => k_is); (case zqk => k_is); (case zql => k_is); (case zqc => k_is)))
      (case zqm_Keeper_is_grouping => (refine' Bk.HasMeth.make KX G ?zqa ?zqi ?zqk ?zql ?zqc Bk.bf_Keeper_is_grouping; (case zqa => k_is); (case zqi => k_is); (case zqk => k_is); (case zql => k_is); (case zqc => k_is)))
      (case zqm_Keeper_has_room => (refine' Bk.HasMeth.make KX G ?zqa ?zqi ?zqk ?zql ?zqc Bk.bf_Keeper_has_room; (case zqa => k_is); (case zqi => k_is); (case zqk => k_is); (case zql => k_is); (case zqc => k_is)))
      (case zqm_Keeper_cost_beyond => (refine' Bk.HasMeth.make KX G ?zqa ?zqi ?zqk ?zql ?zqc Bk.bf_Keeper_cost_beyond; (case zqa => k_is); (case zqi => k_is); (case zqk => k_is); (case zql => k_is); (case zqc => k_is)))
      (case zqm_Keeper_told_set => (refine' Bk.HasMeth.make KX G ?zqa ?zqi ?zqk ?zql ?zqc Bk.bf_Keeper_told_set; (case zqa => k_is); (case zqi => k_is); (case zqk => k_is); (case zql => k_is); (case zqc => k_is)))
      (case zqm_Keeper_told_few => (refine' Bk.HasMeth.make KX G ?zqa ?zqi ?zqk ?zql ?zqc Bk.bf_Keeper_told_few; (case zqa => k_is); (case zqi => k_is); (case zqk => k_is); (case zql => k_is); (case zqc => k_is)))
      (case zqd_size_of => (refine' Bk.HasDef.make KX G ?zqa ?zql ?zqc ?zqk Bk.bf_size_of; (case zqa => k_is); (case zql => k_is); (case zqc => k_is); (case zqk => k_is)))
      (case zqd_told_apart => (refine' Bk.HasDef.make KX G ?zqa ?zql ?zqc ?zqk Bk.bf_told_apart; (case zqa => k_is); (case zql => k_is); (case zqc => k_is); (case zqk => k_is)))
      (case zqd_has_all => (refine' Bk.HasDef.make KX G ?zqa ?zql ?zqc ?zqk Bk.bf_has_all; (case zqa => k_is); (case zql => k_is); (case zqc => k_is); (case zqk => k_is)))
      (case zqd_all_lines => (refine' Bk.HasDef.make KX G ?zqa ?zql ?zqc ?zqk Bk.bf_all_lines; (case zqa => k_is); (case zql => k_is); (case zqc => k_is); (case zqk => k_is)))
      (case zqd_all_readings => (refine' Bk.HasDef.make KX G ?zqa ?zql ?zqc ?zqk Bk.bf_all_readings; (case zqa => k_is); (case zql => k_is); (case zqc => k_is); (case zqk => k_is)))
      (case zqd_all_read => (refine' Bk.HasDef.make KX G ?zqa ?zql ?zqc ?zqk Bk.bf_all_read; (case zqa => k_is); (case zql => k_is); (case zqc => k_is); (case zqk => k_is)))
      (case zqd_best_set => (refine' Bk.HasDef.make KX G ?zqa ?zql ?zqc ?zqk Bk.bf_best_set; (case zqa => k_is); (case zql => k_is); (case zqc => k_is); (case zqk => k_is)))
      (case zqd_best_few => (refine' Bk.HasDef.make KX G ?zqa ?zql ?zqc ?zqk Bk.bf_best_few; (case zqa => k_is); (case zql => k_is); (case zqc => k_is); (case zqk => k_is)))
      (case zqd_least_of => (refine' Bk.HasDef.make KX G ?zqa ?zql ?zqc ?zqk Bk.bf_least_of; (case zqa => k_is); (case zql => k_is); (case zqc => k_is); (case zqk => k_is)))
      (case zqd_cost_by_number => (refine' Bk.HasDef.make KX G ?zqa ?zql ?zqc ?zqk Bk.bf_cost_by_number; (case zqa => k_is); (case zql => k_is); (case zqc => k_is); (case zqk => k_is)))
      (case zqd_members => (refine' Bk.HasDef.make KX G ?zqa ?zql ?zqc ?zqk Bk.bf_members; (case zqa => k_is); (case zql => k_is); (case zqc => k_is); (case zqk => k_is)))
      (case zqd_rooms_that_bring => (refine' Bk.HasDef.make KX G ?zqa ?zql ?zqc ?zqk Bk.bf_rooms_that_bring; (case zqa => k_is); (case zql => k_is); (case zqc => k_is); (case zqk => k_is)))
      (case zqd_step_by_step => (refine' Bk.HasDef.make KX G ?zqa ?zql ?zqc ?zqk Bk.bf_step_by_step; (case zqa => k_is); (case zql => k_is); (case zqc => k_is); (case zqk => k_is)))
      (case zqd_few_step_by_step => (refine' Bk.HasDef.make KX G ?zqa ?zql ?zqc ?zqk Bk.bf_few_step_by_step; (case zqa => k_is); (case zql => k_is); (case zqc => k_is); (case zqk => k_is)))
      (case zqd_steps_at_most => (refine' Bk.HasDef.make KX G ?zqa ?zql ?zqc ?zqk Bk.bf_steps_at_most; (case zqa => k_is); (case zql => k_is); (case zqc => k_is); (case zqk => k_is)))
      (case zqd_best_step => (refine' Bk.HasDef.make KX G ?zqa ?zql ?zqc ?zqk Bk.bf_best_step; (case zqa => k_is); (case zql => k_is); (case zqc => k_is); (case zqk => k_is)))
      (case zqd_lines_of => (refine' Bk.HasDef.make KX G ?zqa ?zql ?zqc ?zqk Bk.bf_lines_of; (case zqa => k_is); (case zql => k_is); (case zqc => k_is); (case zqk => k_is)))
      (case zqd_cost_of => (refine' Bk.HasDef.make KX G ?zqa ?zql ?zqc ?zqk Bk.bf_cost_of; (case zqa => k_is); (case zql => k_is); (case zqc => k_is); (case zqk => k_is)))
      (case zqd_reading_of => (refine' Bk.HasDef.make KX G ?zqa ?zql ?zqc ?zqk Bk.bf_reading_of; (case zqa => k_is); (case zql => k_is); (case zqc => k_is); (case zqk => k_is)))
      (case zqd_what_is_read => (refine' Bk.HasDef.make KX G ?zqa ?zql ?zqc ?zqk Bk.bf_what_is_read; (case zqa => k_is); (case zql => k_is); (case zqc => k_is); (case zqk => k_is)))
      (case zqd_questions_that_read => (refine' Bk.HasDef.make KX G ?zqa ?zql ?zqc ?zqk Bk.bf_questions_that_read; (case zqa => k_is); (case zql => k_is); (case zqc => k_is); (case zqk => k_is)))
      (case zqd_upkeep => (refine' Bk.HasDef.make KX G ?zqa ?zql ?zqc ?zqk Bk.bf_upkeep; (case zqa => k_is); (case zql => k_is); (case zqc => k_is); (case zqk => k_is)))
      (case zqd_tokens_of => (refine' Bk.HasDef.make KX G ?zqa ?zql ?zqc ?zqk Bk.bf_tokens_of; (case zqa => k_is); (case zql => k_is); (case zqc => k_is); (case zqk => k_is)))
      (case zqd_as_signs => (refine' Bk.HasDef.make KX G ?zqa ?zql ?zqc ?zqk Bk.bf_as_signs; (case zqa => k_is); (case zql => k_is); (case zqc => k_is); (case zqk => k_is)))
      (case zqd_past_blanks => (refine' Bk.HasDef.make KX G ?zqa ?zql ?zqc ?zqk Bk.bf_past_blanks; (case zqa => k_is); (case zql => k_is); (case zqc => k_is); (case zqk => k_is)))
      (case zqd_remark_end => (refine' Bk.HasDef.make KX G ?zqa ?zql ?zqc ?zqk Bk.bf_remark_end; (case zqa => k_is); (case zql => k_is); (case zqc => k_is); (case zqk => k_is)))
      (case zqd_token_at => (refine' Bk.HasDef.make KX G ?zqa ?zql ?zqc ?zqk Bk.bf_token_at; (case zqa => k_is); (case zql => k_is); (case zqc => k_is); (case zqk => k_is)))
      (case zqd_number_at => (refine' Bk.HasDef.make KX G ?zqa ?zql ?zqc ?zqk Bk.bf_number_at; (case zqa => k_is); (case zql => k_is); (case zqc => k_is); (case zqk => k_is)))
      (case zqd_is_number => (refine' Bk.HasDef.make KX G ?zqa ?zql ?zqc ?zqk Bk.bf_is_number; (case zqa => k_is); (case zql => k_is); (case zqc => k_is); (case zqk => k_is)))
      (case zqd_name_at => (refine' Bk.HasDef.make KX G ?zqa ?zql ?zqc ?zqk Bk.bf_name_at; (case zqa => k_is); (case zql => k_is); (case zqc => k_is); (case zqk => k_is)))
      (case zqd_run_end => (refine' Bk.HasDef.make KX G ?zqa ?zql ?zqc ?zqk Bk.bf_run_end; (case zqa => k_is); (case zql => k_is); (case zqc => k_is); (case zqk => k_is)))
      (case zqd_read_table => (refine' Bk.HasDef.make KX G ?zqa ?zql ?zqc ?zqk Bk.bf_read_table; (case zqa => k_is); (case zql => k_is); (case zqc => k_is); (case zqk => k_is)))
      (case zqd_read_columns => (refine' Bk.HasDef.make KX G ?zqa ?zql ?zqc ?zqk Bk.bf_read_columns; (case zqa => k_is); (case zql => k_is); (case zqc => k_is); (case zqk => k_is)))
      (case zqd_read_new_name => (refine' Bk.HasDef.make KX G ?zqa ?zql ?zqc ?zqk Bk.bf_read_new_name; (case zqa => k_is); (case zql => k_is); (case zqc => k_is); (case zqk => k_is)))
      (case zqd_read_row => (refine' Bk.HasDef.make KX G ?zqa ?zql ?zqc ?zqk Bk.bf_read_row; (case zqa => k_is); (case zql => k_is); (case zqc => k_is); (case zqk => k_is)))
      (case zqd_read_amount => (refine' Bk.HasDef.make KX G ?zqa ?zql ?zqc ?zqk Bk.bf_read_amount; (case zqa => k_is); (case zql => k_is); (case zqc => k_is); (case zqk => k_is)))
      (case zqd_read_number => (refine' Bk.HasDef.make KX G ?zqa ?zql ?zqc ?zqk Bk.bf_read_number; (case zqa => k_is); (case zql => k_is); (case zqc => k_is); (case zqk => k_is)))
      (case zqd_read_question => (refine' Bk.HasDef.make KX G ?zqa ?zql ?zqc ?zqk Bk.bf_read_question; (case zqa => k_is); (case zql => k_is); (case zqc => k_is); (case zqk => k_is)))
      (case zqd_read_grouping => (refine' Bk.HasDef.make KX G ?zqa ?zql ?zqc ?zqk Bk.bf_read_grouping; (case zqa => k_is); (case zql => k_is); (case zqc => k_is); (case zqk => k_is)))
      (case zqd_read_column_bit => (refine' Bk.HasDef.make KX G ?zqa ?zql ?zqc ?zqk Bk.bf_read_column_bit; (case zqa => k_is); (case zql => k_is); (case zqc => k_is); (case zqk => k_is)))
      (case zqd_one_form => (refine' Bk.HasDef.make KX G ?zqa ?zql ?zqc ?zqk Bk.bf_one_form; (case zqa => k_is); (case zql => k_is); (case zqc => k_is); (case zqk => k_is)))
      (case zqd_columns_line => (refine' Bk.HasDef.make KX G ?zqa ?zql ?zqc ?zqk Bk.bf_columns_line; (case zqa => k_is); (case zql => k_is); (case zqc => k_is); (case zqk => k_is)))
      (case zqd_row_line => (refine' Bk.HasDef.make KX G ?zqa ?zql ?zqc ?zqk Bk.bf_row_line; (case zqa => k_is); (case zql => k_is); (case zqc => k_is); (case zqk => k_is)))
      (case zqd_question_line => (refine' Bk.HasDef.make KX G ?zqa ?zql ?zqc ?zqk Bk.bf_question_line; (case zqa => k_is); (case zql => k_is); (case zqc => k_is); (case zqk => k_is)))
      (case zqd_names_of => (refine' Bk.HasDef.make KX G ?zqa ?zql ?zqc ?zqk Bk.bf_names_of; (case zqa => k_is); (case zql => k_is); (case zqc => k_is); (case zqk => k_is)))
      (case zqd_answers => (refine' Bk.HasDef.make KX G ?zqa ?zql ?zqc ?zqk Bk.bf_answers; (case zqa => k_is); (case zql => k_is); (case zqc => k_is); (case zqk => k_is)))
      (case zqd_told_begin => (refine' Bk.HasDef.make KX G ?zqa ?zql ?zqc ?zqk Bk.bf_told_begin; (case zqa => k_is); (case zql => k_is); (case zqc => k_is); (case zqk => k_is)))
      (case zqd_told_end => (refine' Bk.HasDef.make KX G ?zqa ?zql ?zqc ?zqk Bk.bf_told_end; (case zqa => k_is); (case zql => k_is); (case zqc => k_is); (case zqk => k_is)))
  case zqS =>
    intro K H xs a hO hwi hask hx
    exact Bk.last_in hask hx
