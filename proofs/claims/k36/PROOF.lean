import PyProof.Rows.All
import Wide.All
import OpenK.AllK
import Wide.FinOn
import HandS.ForMost
import HandS.Flow
import HandS.FStr
import HandS.Strs
import HandS.Star
import HandS.CallLocal
import HandS.More
import HandS.Conv
import HandS.TupLen
import HandS.Codes
import HandS.TryOnly
import HandS.Wide
import HandS.Walk
import HandS.IsInst
import HandS.SortRule
import HandS.ReplaceLit
import HandS.ReplaceList
import KE.KDictKeyed
import HandS.Defaults
import HandS.TupAny
import HandS.Style
import HandS.GenList
import HandS.SetFor
import HandS.Iter
import HandS.Replace
import PySem.Challenge.RW_sweeprota_k36_whole_texts_of_one_plan
set_option Elab.async false
set_option linter.all false
set_option maxRecDepth 100000
set_option maxHeartbeats 4000000

/-! Steps: readings taken apart one construct at a time; defs that are called. -/
namespace Sw
open PySem L2

/-- a def of the module, as its callers want it -/
structure Cal (P : Program) (w : World) (K : PySem.W.Frag) (mg : Str → Option Value) (base : Heap) (name : Str) (k : Nat) (f : Addr) (fd : FuncData) (ps : List Str) (sp : Sp) : Prop where
  ok : FnOk P w K mg base CX0 k f fd ps sp
  mg' : mg name = some (.ref f)
  kp : PySem.W.keepIn K (.ref f) = true
  b : Binds K fd ps []

section
variable {K : PySem.W.Frag} {σ : St} {H : Hp} {D : Ends} {te ta tb : TE} {tt : TT} {t u : TS} {g : TG} {i : Nat} {v x y : V} {Q : VK} {ar : TA} {QB : Bool → Hp → Prop} {QA : List V → Hp → Prop} {b : Bool}
theorem r_seq (h : t { D with nx := u D } σ H) : tSeq t u D σ H := h
theorem r_asg (h : te σ H fun x H1 => g x σ H1 D.nx) : tAsg te g D σ H := h
theorem r_gname {QS : St → Hp → Prop} (h : QS (σ.set i (some v)) H) : gName i v σ H QS := h
theorem r_drop (h : te σ H fun _ H1 => D.nx σ H1) : tDrop te D σ H := h
theorem r_ret (h : te σ H D.rt) : tRet te D σ H := h
theorem r_retN (h : D.rt .non H) : tRetN D σ H := h
theorem r_next (h : D.nx σ H) : tNext D σ H := h
theorem r_cont (h : D.ct σ H) : tCont D σ H := h
theorem r_break (h : D.bk σ H) : tBreak D σ H := h
theorem r_ifS (h : tt σ H fun b H1 => if b = true then t D σ H1 else u D σ H1) : tIfS tt t u D σ H := h
theorem r_var (e : σ[i]? = some (some v)) (h : Q v H) : tVar i σ H Q := ⟨v, e, h⟩
theorem r_c (h : Q v H) : tC v σ H Q := h
theorem r_op {r : R2} (h : ta σ H fun x H1 => tb σ H1 fun y H2 => r x y H2 Q) : tOp r ta tb σ H Q := h
theorem r_un {r : V → Hp → VK → Prop} (h : ta σ H fun x H1 => r x H1 Q) : tUn r ta σ H Q := h
theorem r_I0 {g : Int → Int → V} {a b : Int} (h : Q (g a b) H) : rI0 g (.int a) (.int b) H Q := ⟨a, b, rfl, rfl, h⟩
theorem r_I {C : Int → Int → Prop} {g : Int → Int → V} {a b : Int} (hc : C a b) (h : Q (g a b) H) : rI C g (.int a) (.int b) H Q := ⟨a, b, rfl, rfl, hc, h⟩
theorem r_U {g : Int → V} {a : Int} (h : Q (g a) H) : rU g (.int a) H Q := ⟨a, rfl, h⟩
theorem r_eq (e : scal x y = true) (h : Q (.bl (decide (x = y))) H) : rEq x y H Q := ⟨e, h⟩
theorem r_ne (e : scal x y = true) (h : Q (.bl (!decide (x = y))) H) : rNe x y H Q := ⟨e, h⟩
theorem r_test (h : te σ H fun x H' => ∃ k, x = .bl k ∧ QB k H') : tTest te σ H QB := h
theorem r_tB (h : te σ H fun x H' => ∃ k, x = .bl k ∧ QB k H') : tB te σ H QB := h
theorem r_bl (h : QB b H) : ∃ k, V.bl b = .bl k ∧ QB k H := ⟨b, rfl, h⟩
theorem r_not (h : tt σ H fun c H1 => QB (!c) H1) : tNot tt σ H QB := h
theorem r_notV (h : ta σ H fun x H1 => ∃ c, x = .bl c ∧ Q (.bl (!c)) H1) : tNotV ta σ H Q := h
theorem r_and {t1 t2 : TT} (h : t1 σ H fun c H1 => if c = true then t2 σ H1 QB else QB false H1) : tAnd t1 t2 σ H QB := h
theorem r_or {t1 t2 : TT} (h : t1 σ H fun c H1 => if c = true then QB true H1 else t2 σ H1 QB) : tOr t1 t2 σ H QB := h
theorem r_andV (h : ta σ H fun x H1 => ∃ c, x = .bl c ∧ if c = true then tb σ H1 Q else Q (.bl false) H1) : tAndV ta tb σ H Q := h
theorem r_orV (h : ta σ H fun x H1 => ∃ c, x = .bl c ∧ if c = true then Q (.bl true) H1 else tb σ H1 Q) : tOrV ta tb σ H Q := h
theorem r_ifE (h : tt σ H fun c H1 => if c = true then ta σ H1 Q else tb σ H1 Q) : tIf tt ta tb σ H Q := h
theorem r_cb {r : List V → Hp → VK → Prop} (h : ar σ H fun vs H1 => r vs H1 Q) : tCB r ar σ H Q := h
theorem r_nil (h : QA [] H) : tNil σ H QA := h
theorem r_cons (h : ta σ H fun x H1 => ar σ H1 fun xs H2 => QA (x :: xs) H2) : tCons ta ar σ H QA := h
theorem r_call {sp : Sp} {E : XK} (h : ar σ H fun vs H1 => sp (vs ++ []) H1 Q E) : tCall sp [] E ar σ H Q := h
theorem r_make {C : Addr} {sp : Sp} {E : XK} (h : ar σ H fun vs H1 => ∀ x dx, H1 x = none → H1 dx = none → dx ≠ x → sp (.ref x :: (vs ++ [])) (upd (upd H1 dx (.own x)) x (.ins C dx [])) (fun v H2 => v = .non ∧ Q (.ref x) H2) E) : tMake C sp [] E ar σ H Q := h
theorem r_meth {C : Addr} {m : Str} {sp : Sp} {E : XK} (h : ta σ H fun x H1 => ∃ a dx fs, x = .ref a ∧ H1 a = some (.ins C dx fs) ∧ fs.lookup m = none ∧ ar σ H1 fun vs H2 => sp (x :: (vs ++ [])) H2 Q E) : tMeth C m sp [] E ta ar σ H Q := h
theorem r_tup (h : ar σ H fun xs H1 => xs.length ≤ sizeLine ∧ ∀ p, H1 p = none → Q (.ref p) (upd H1 p (.tup xs))) : tTup ar σ H Q := h
theorem r_lst (h : ar σ H fun xs H1 => xs.length ≤ sizeLine ∧ ∀ p, H1 p = none → Q (.ref p) (upd H1 p (.lst xs))) : tLst ar σ H Q := h
theorem r_size (h : ar σ H QA) (e : True) : ar σ H QA := h
theorem r_fld (f : Str) (h : ta σ H fun x H1 => ∃ a C dx fs v, x = .ref a ∧ H1 a = some (.ins C dx fs) ∧ Cls K C ∧ NoAttr K C f ∧ fs.lookup f = some v ∧ Q v H1) : tFld K ta f σ H Q := h
theorem r_bm {T : String} {r : V → List V → Hp → VK → Prop} (h : ta σ H fun x H1 => tyV K T x H1 ∧ ar σ H1 fun xs H2 => r x xs H2 Q) : tBM K T r ta ar σ H Q := h
theorem r_bm0 {T : String} {r : V → List V → Hp → VK → Prop} (h : ta σ H fun x H1 => tyV K T x H1 ∧ r x [] H1 Q) : tBM0 K T r ta σ H Q := h
theorem r_aug {ti : TIp} {x : V} (e : σ[i]? = some (some x)) (h : te σ H fun y H1 => ti x y H1 fun z H2 => D.nx (σ.set i (some z)) H2) : tAug i te ti D σ H := ⟨x, e, h⟩
theorem r_ipI {f : Int → Int → Int} {a b : Int} (h : Q (.int (f a b)) H) : ipI f (.int a) (.int b) H Q := ⟨a, b, rfl, rfl, h⟩
theorem r_sl {r : V → Option Int → Option Int → Hp → VK → Prop} {tl th : TO} (h : te σ H fun x H1 => tl σ H1 fun l H2 => th σ H2 fun u H3 => r x l u H3 Q) : tSl r te tl th σ H Q := h
theorem r_noPart {QO : Option Int → Hp → Prop} (h : QO none H) : tNoPart σ H QO := h
theorem r_part {QO : Option Int → Hp → Prop} (h : te σ H fun x H1 => ∃ i, x = .int i ∧ QO (some i) H1) : tPart te σ H QO := h
theorem r_int {QI : Int → Hp → Prop} {n : Int} (h : QI n H) : ∃ i, V.int n = .int i ∧ QI i H := ⟨n, rfl, h⟩
theorem r_len {z : Str} {R : Str → Prop} (e : z.length ≤ sizeLine) (h : R z) : ∃ z', [V.str z] = [V.str z'] ∧ z'.length ≤ sizeLine ∧ R z' := ⟨z, rfl, e, h⟩
theorem r_ixS {z : Str} {n : Int} {c : Nat} (e : z.length ≤ sizeLine) (a : atI z.cps.toList n = some c) (h : Q (.str ⟨#[c]⟩) H) : rIxS (.str z) (.int n) H Q := ⟨z, n, c, rfl, rfl, e, a, h⟩
theorem r_inC {c : Nat} {z : Str} {R : Nat → Str → Prop} (h : R c z) : ∃ (c' : Nat) (z' : Str), V.str ⟨#[c]⟩ = .str ⟨#[c']⟩ ∧ V.str z = .str z' ∧ R c' z' := ⟨c, z, rfl, rfl, h⟩
theorem r_bl' {b : Bool} {R : Bool → Prop} (h : R b) : ∃ k, V.bl b = .bl k ∧ R k := ⟨b, rfl, h⟩
theorem r_int' {n : Int} {R : Int → Prop} (h : R n) : ∃ i, V.int n = .int i ∧ R i := ⟨n, rfl, h⟩
theorem r_str' {z : Str} {R : Str → Prop} (h : R z) : ∃ i, V.str z = .str i ∧ R i := ⟨z, rfl, h⟩
theorem r_rfl {R : Prop} {A : Prop} (e : A) (h : R) : A ∧ R := ⟨e, h⟩
theorem r_str2 {y z : Str} {R : Str → Str → Prop} (e : y.length + z.length ≤ sizeLine) (h : R y z) : ∃ i j, V.str y = .str i ∧ V.str z = .str j ∧ i.length + j.length ≤ sizeLine ∧ R i j := ⟨y, z, rfl, rfl, e, h⟩
theorem r_lenL {p : Addr} {xs : List V} {R : Addr → List V → Prop} (e : SqL K H p xs ∨ SqT K H p xs) (h : R p xs) : ∃ p' ys, [V.ref p] = [V.ref p'] ∧ (SqL K H p' ys ∨ SqT K H p' ys) ∧ R p' ys := ⟨p, xs, rfl, e, h⟩
theorem r_tuple {p : Addr} {xs : List V} {R : Addr → List V → Prop} (e : SqT K H p xs) (h : R p xs) : ∃ p' ys, V.ref p = V.ref p' ∧ SqT K H p' ys ∧ R p' ys := ⟨p, xs, rfl, e, h⟩
theorem r_notInC {c : Nat} {z : Str} {R : Nat → Str → Prop} (h : R c z) : ∃ (c' : Nat) (z' : Str), V.str ⟨#[c]⟩ = .str ⟨#[c']⟩ ∧ V.str z = .str z' ∧ R c' z' := ⟨c, z, rfl, rfl, h⟩
theorem r_isN {R : Prop} (h : R) : V.non = .non ∧ R := ⟨rfl, h⟩
theorem r_fmt {y : Str} {R : Str → Prop} {R2 : Int → Prop} (e : y.length ≤ sizeLine) (h : R y) : (∃ y', V.str y = .str y' ∧ y'.length ≤ sizeLine ∧ R y') ∨ ∃ i : Int, V.str y = .int i ∧ R2 i := .inl ⟨y, rfl, e, h⟩
theorem r_fmtI {n : Int} {R : Str → Prop} {R2 : Int → Prop} (e : n.natAbs.log2 < 1920) (h : R2 n) : (∃ y', V.int n = .str y' ∧ R y') ∨ ∃ i : Int, V.int n = .int i ∧ i.natAbs.log2 < 1920 ∧ R2 i := .inr ⟨n, rfl, e, h⟩
theorem r_tFmt (h : te σ H fun x H1 => (∃ y : Str, x = .str y ∧ y.length ≤ sizeLine ∧ Q (.str y) H1) ∨ ∃ i : Int, x = .int i ∧ i.natAbs.log2 < 1920 ∧ Q (.str (toString i)) H1) : tFmt te σ H Q := h
/-- an instance's field -/
theorem r_fldOf {f : Str} {p C dx : Addr} {fs : List (Str × V)} {v : V} {R : V → Prop} (h1 : H p = some (.ins C dx fs)) (h2 : Cls K C) (h3 : NoAttr K C f) (h4 : fs.lookup f = some v) (h : R v) :
    ∃ a' C' dx' fs' v', V.ref p = .ref a' ∧ H a' = some (.ins C' dx' fs') ∧ Cls K C' ∧ NoAttr K C' f ∧ fs'.lookup f = some v' ∧ R v' := ⟨p, C, dx, fs, v, rfl, h1, h2, h3, h4, h⟩
theorem r_while {c : TT} {tb : TS} (W : Nat → St → Hp → Prop) {m0 : Nat} (h0 : W m0 σ H) (hs : ∀ m σ H, W m σ H → c σ H fun b H1 => if b = true then
      ∃ N : St → Hp → Prop, (∀ σ' H', N σ' H' → ∃ m', m' < m ∧ W m' σ' H') ∧ tb { D with nx := N, ct := N, bk := D.nx } σ H1 else D.nx σ H1) : tWhile c tb D σ H := ⟨W, ⟨m0, h0⟩, hs⟩
theorem r_for {wi : TI} {tb : TS} (h : wi σ H fun J H1 => ∃ W : Nat → Nat → St → Hp → Prop, (∃ m, W 0 m σ H1) ∧ ∀ i m σ H, W i m σ H →
  (J.stop i H ∧ D.nx σ H) ∨ (J.go i H ∧ ∃ N : St → Hp → Prop, (∀ σ' H', N σ' H' → ∃ m', m' < m ∧ W (i + 1) m' σ' H') ∧ ∀ x H', J.yld i H x H' → g x σ H' fun σ2 H2 => tb { D with nx := N, ct := N, bk := D.nx } σ2 H2)) : tFor wi g tb D σ H := h
theorem r_iList {R : It → Hp → Prop} (h : te σ H fun x H1 => ∃ a, x = .ref a ∧ (∃ xs, SqL K H1 a xs) ∧ R (Itl K a) H1) : iList K te σ H R := h
theorem r_iTup {R : It → Hp → Prop} (h : te σ H fun x H1 => ∃ a, x = .ref a ∧ (∃ xs, SqT K H1 a xs) ∧ R (Itt K a) H1) : iTup K te σ H R := h
theorem r_iRng1 {R : It → Hp → Prop} (h : ar σ H fun vs H1 => ∃ j : Int, vs = [.int j] ∧ -(2 ^ 62) ≤ j ∧ j < 2 ^ 62 ∧ R (Itr 0 j.toNat) H1) : iRng1 ar σ H R := h
theorem r_iRng2 {R : It → Hp → Prop} (h : ar σ H fun vs H1 => ∃ i j : Int, vs = [.int i, .int j] ∧ (-(2 ^ 62) ≤ i ∧ i < 2 ^ 62 ∧ -(2 ^ 62) ≤ j ∧ j < 2 ^ 62) ∧ R (Itr i (j - i).toNat) H1) : iRng2 ar σ H R := h
theorem r_iEnum {R : It → Hp → Prop} (h : ar σ H fun vs H1 => ∃ a xs, vs = [.ref a] ∧ SqL K H1 a xs ∧ R (Ite K a) H1) : iEnum K ar σ H R := h
theorem r_iStr {R : It → Hp → Prop} (h : te σ H fun v H1 => ∃ x, v = .str x ∧ R (Its x) H1) : iStr te σ H R := h
theorem r_itL {p : Addr} {xs : List V} {R : Addr → Prop} (e : SqL K H p xs) (h : R p) : ∃ a, V.ref p = .ref a ∧ (∃ xs, SqL K H a xs) ∧ R a := ⟨p, rfl, ⟨xs, e⟩, h⟩
theorem r_itT {p : Addr} {xs : List V} {R : Addr → Prop} (e : SqT K H p xs) (h : R p) : ∃ a, V.ref p = .ref a ∧ (∃ xs, SqT K H a xs) ∧ R a := ⟨p, rfl, ⟨xs, e⟩, h⟩
theorem r_sFld {tv : TE} {f : Str} (h : tv σ H fun y H1 => ta σ H1 fun x H2 => ∃ a C dx fs, x = .ref a ∧ H2 a = some (.ins C dx fs) ∧ Cls K C ∧ NoAttr K C f ∧ fs.length < 1000 ∧ D.nx σ (upd H2 a (.ins C dx (putF f y fs)))) : sFld K ta tv f D σ H := h
theorem r_sfldOf {f : Str} {p C dx : Addr} {fs : List (Str × V)} {R : Addr → Addr → Addr → List (Str × V) → Prop} (h1 : H p = some (.ins C dx fs)) (h2 : Cls K C) (h3 : NoAttr K C f) (h4 : fs.length < 1000) (h : R p C dx fs) :
    ∃ a' C' dx' fs', V.ref p = .ref a' ∧ H a' = some (.ins C' dx' fs') ∧ Cls K C' ∧ NoAttr K C' f ∧ fs'.length < 1000 ∧ R a' C' dx' fs' := ⟨p, C, dx, fs, rfl, h1, h2, h3, h4, h⟩
theorem r_app {p : Addr} {xs : List V} {y : V} (h1 : H p = some (.lst xs)) (h2 : xs.length < sizeLine) (h : Q .non (upd H p (.lst (xs ++ [y])))) : rAppend (.ref p) [y] H Q := ⟨p, xs, y, rfl, rfl, h1, h2, h⟩
theorem r_ext {p b : Addr} {xs zs : List V} (h1 : H p = some (.lst xs)) (h2 : H b = some (.lst zs)) (h3 : xs.length + zs.length ≤ sizeLine) (h : Q .non (upd H p (.lst (xs ++ zs)))) : rExtend (.ref p) [.ref b] H Q := ⟨p, b, xs, zs, rfl, rfl, h1, h2, h3, h⟩
theorem r_tyL {p : Addr} {xs : List V} {R : Prop} (h1 : SqL K H p xs) (h : R) : tyV K "list" (.ref p) H ∧ R := ⟨.inl ⟨rfl, _, h1⟩, h⟩
theorem r_tyS {z : Str} {R : Prop} (h : R) : tyV K "str" (.str z) H ∧ R := ⟨rfl, h⟩
theorem r_slS {z : Str} {lo hi : Option Int} (e : z.length ≤ sizeLine) (h : Q (.str (cutS z lo hi)) H) : rSlS (.str z) lo hi H Q := ⟨z, rfl, e, h⟩
theorem r_slL {p : Addr} {xs : List V} {lo hi : Option Int} (e : SqL K H p xs) (h : ∀ q, H q = none → Q (.ref q) (upd H q (.lst (cutV xs lo hi)))) : rSlL K (.ref p) lo hi H Q := ⟨p, xs, rfl, e, h⟩
theorem r_ixL {p : Addr} {xs : List V} {n : Int} {v : V} (e : SqL K H p xs) (a : atI xs n = some v) (h : Q v H) : rIxL K (.ref p) (.int n) H Q := ⟨p, xs, n, v, rfl, rfl, e, a, h⟩
theorem r_ixT {p : Addr} {xs : List V} {n : Int} {v : V} (e : SqT K H p xs) (a : atI xs n = some v) (h : Q v H) : rIxT K (.ref p) (.int n) H Q := ⟨p, xs, n, v, rfl, rfl, e, a, h⟩
theorem r_inSeq {b : Bool} {p : Addr} {xs : List V} {x : V} (e : SqL K H p xs ∨ SqT K H p xs) (h1 : flatV x = true) (h2 : xs.all flatV = true) (h : Q (.bl (if b then !inV x xs else inV x xs)) H) : rIn K b x (.ref p) H Q := ⟨p, xs, rfl, e, h1, h2, h⟩
theorem r_tM0 {r : V → List V → Hp → VK → Prop} (h : te σ H fun x H1 => (∃ a, x = .str a) ∧ r x [] H1 Q) : tM0 r te σ H Q := h
theorem r_tM1 {r : V → List V → Hp → VK → Prop} (h : ta σ H fun x H1 => (∃ a, x = .str a) ∧ tb σ H1 fun y H2 => r x [y] H2 Q) : tM1 r ta tb σ H Q := h
theorem r_isS {z : Str} {R : Prop} (h : R) : (∃ a, V.str z = .str a) ∧ R := ⟨⟨z, rfl⟩, h⟩
theorem r_gTup {p : Addr} {n : Nat} {t : TGs} {xs : List V} {QS : St → Hp → Prop} (e : SqT K H p xs) (l : xs.length = n) (h : t xs σ H QS) : gTup K n t (.ref p) σ H QS := ⟨p, xs, rfl, e, l, h⟩
theorem r_gLst {p : Addr} {n : Nat} {t : TGs} {xs : List V} {QS : St → Hp → Prop} (e : SqL K H p xs) (l : xs.length = n) (h : t xs σ H QS) : gLst K n t (.ref p) σ H QS := ⟨p, xs, rfl, e, l, h⟩
theorem r_gCons {t : TG} {u : TGs} {v : V} {r : List V} {QS : St → Hp → Prop} (h : t v σ H fun σ' H' => u r σ' H' QS) : gCons t u (v :: r) σ H QS := ⟨v, r, rfl, h⟩
theorem r_gNil {QS : St → Hp → Prop} (h : QS σ H) : gNil [] σ H QS := ⟨rfl, h⟩
theorem r_par {i j : Nat} (h : ar σ H fun vs H1 => ∃ v w, vs = [v, w] ∧ D.nx ((σ.set i (some v)).set j (some w)) H1) : tPar i j ar D σ H := h
theorem r_two {x y : V} {R : V → V → Prop} (h : R x y) : ∃ v w, [x, y] = [v, w] ∧ R v w := ⟨x, y, rfl, h⟩
theorem r_never (h : False) : tNever D σ H := h
theorem r_dget {td ty : TE} (h : td σ H fun x H1 => ty σ H1 fun y H2 => ∃ a v, x = .ref a ∧ DGet H2 a y (some v) ∧ Q v H2) : tDGet td ty σ H Q := h
theorem r_din {td ty : TE} (h : ty σ H fun y H1 => td σ H1 fun x H2 => ∃ a o, x = .ref a ∧ DGet H2 a y o ∧ Q (.bl o.isSome) H2) : tDIn ty td σ H Q := h
theorem r_dnotin {td ty : TE} (h : ty σ H fun y H1 => td σ H1 fun x H2 => ∃ a o, x = .ref a ∧ DGet H2 a y o ∧ Q (.bl (!o.isSome)) H2) : tDNotIn ty td σ H Q := h
theorem r_dput {td ty tv : TE} (h : tv σ H fun v H1 => td σ H1 fun x H2 => ty σ H2 fun y H3 => ∃ a H4, x = .ref a ∧ DPut H3 a y v H4 ∧ D.nx σ H4) : sDPut td ty tv D σ H := h
theorem r_dOf {p : Addr} {y v : V} {R : V → Prop} (e : DGet H p y (some v)) (h : R v) : ∃ a v', V.ref p = .ref a ∧ DGet H a y (some v') ∧ R v' := ⟨p, v, rfl, e, h⟩
theorem r_dIs {p : Addr} {y : V} {o : Option V} {R : Option V → Prop} (e : DGet H p y o) (h : R o) : ∃ a o', V.ref p = .ref a ∧ DGet H a y o' ∧ R o' := ⟨p, o, rfl, e, h⟩
theorem r_dPutK {p : Addr} {kvs : List (Key × V)} {k : Key} {v : V} {R : Hp → Prop} (e : H p = some (.dK kvs)) (l : kvs.length < sizeLine) (h : R (upd H p (.dK (putK kvs k v)))) : ∃ a H4, V.ref p = .ref a ∧ DPut H a (kV k) v H4 ∧ R H4 := ⟨p, _, rfl, DPut.k e l, h⟩
theorem r_dPutT {p b : Addr} {kvs : List (List Key × V)} {k : List Key} {v : V} {R : Hp → Prop} (e : H p = some (.dT kvs)) (eb : H b = some (.tup (k.map kV))) (l : kvs.length < sizeLine) (h : R (upd H p (.dT (putK kvs k v)))) : ∃ a H4, V.ref p = .ref a ∧ DPut H a (.ref b) v H4 ∧ R H4 := ⟨p, _, rfl, DPut.t e eb l, h⟩
theorem r_dnewK (h : ∀ p, H p = none → Q (.ref p) (upd H p (.dK []))) : tDNewK σ H Q := h
theorem r_dnewT (h : ∀ p, H p = none → Q (.ref p) (upd H p (.dT []))) : tDNewT σ H Q := h
theorem Same.mut {H H1 : Hp} {p : Addr} {o : HO} (s : Same H H1) (n : H p = none) : Same H (upd H1 p o) := fun c u e => by
  rw [upd_ne (ne_of_none e n)]; exact s c u e
theorem dec_str (y z : Str) : decide (V.str y = V.str z) = decide (y = z) := by
  by_cases e : y = z
  · subst e; simp
  · rw [decide_eq_false e, decide_eq_false fun q => e (V.str.inj q)]
theorem dec_int (y z : Int) : decide (V.int y = V.int z) = decide (y = z) := by
  by_cases e : y = z
  · subst e; simp
  · rw [decide_eq_false e, decide_eq_false fun q => e (V.int.inj q)]
theorem dec_sign (c d : Nat) : decide ((⟨#[c]⟩ : Str) = ⟨#[d]⟩) = decide (c = d) := by
  by_cases e : c = d
  · subst e; simp
  · rw [decide_eq_false e, decide_eq_false fun q => e (by injection q with q; injection q with q; injection q with q)]
theorem inV_strs (y : Str) : ∀ l : List Str, inV (.str y) (l.map V.str) = decide (y ∈ l)
  | [] => by simp [inV]
  | z :: r => by
    have ih := inV_strs y r
    unfold inV at ih ⊢
    rw [List.map_cons, List.any_cons, ih]
    have e : eqV (.str z) (.str y) = decide (z = y) := by
      show (z == y) = decide (z = y)
      by_cases q : z = y
      · subst q; simp
      · rw [decide_eq_false q]; exact beq_eq_false_iff_ne.mpr q
    rw [e]
    by_cases q : z = y
    · subst q; simp
    · have q' : ¬ y = z := fun x => q x.symm
      simp [q, q']
theorem flat_strs' (l : List Str) : (l.map V.str).all flatV = true := by
  rw [List.all_eq_true]
  intro x hx
  obtain ⟨z, _, rfl⟩ := List.mem_map.mp hx
  rfl
theorem r_yes' {σ : St} {H : Hp} {QB : Bool → Hp → Prop} (h : QB true H) : tYes σ H QB := h
theorem r_dget2 {td ty tx : TE} {σ : St} {H : Hp} {Q : VK} (h : td σ H fun x H1 => ∃ a, x = .ref a ∧ IsD H1 a ∧ ty σ H1 fun y H2 => tx σ H2 fun z H3 => ∃ o, DGet H3 a y o ∧ Q (o.getD z) H3) : tDGet2 td ty tx σ H Q := h
theorem r_or2' {t1 t2 : TT} {σ : St} {H : Hp} {QB : Bool → Hp → Prop} (h1 : ∀ QB : Bool → Hp → Prop, QB false H → t1 σ H QB) (h2 : t2 σ H QB) : tOr t1 t2 σ H QB := h1 _ (iteF h2)
theorem r_and2 {t1 t2 : TT} (b1 b2 : Bool) (h1 : ∀ QB : Bool → Hp → Prop, QB b1 H → t1 σ H QB) (h2 : b1 = true → ∀ QB : Bool → Hp → Prop, QB b2 H → t2 σ H QB) (h : QB (b1 && b2) H) : tAnd t1 t2 σ H QB := by
  refine h1 _ ?_
  cases b1 with
  | true => exact iteT (h2 rfl _ h)
  | false => exact iteF h
theorem r_or2 {t1 t2 : TT} (b1 b2 : Bool) (h1 : ∀ QB : Bool → Hp → Prop, QB b1 H → t1 σ H QB) (h2 : b1 = false → ∀ QB : Bool → Hp → Prop, QB b2 H → t2 σ H QB) (h : QB (b1 || b2) H) : tOr t1 t2 σ H QB := by
  refine h1 _ ?_
  cases b1 with
  | true => exact iteT h
  | false => exact iteF (h2 rfl _ h)
theorem r_and2V (b1 b2 : Bool) (h1 : ∀ Q : VK, Q (.bl b1) H → ta σ H Q) (h2 : b1 = true → ∀ Q : VK, Q (.bl b2) H → tb σ H Q) (h : Q (.bl (b1 && b2)) H) : tAndV ta tb σ H Q := by
  refine h1 _ ⟨b1, rfl, ?_⟩
  cases b1 with
  | true => exact iteT (h2 rfl _ h)
  | false => exact iteF h
/-- an if whose answer is told by a proposition -/
theorem ite_b {b : Bool} {p A B : Prop} [Decidable p] (e : b = decide p) (h1 : p → A) (h2 : ¬ p → B) : if b = true then A else B := by
  subst e
  exact ite2 (fun h => h1 (of_decide_eq_true h)) fun h => h2 fun q => h (decide_eq_true q)
theorem r_fldAug {tv : TE} {rd : V → V → Hp → VK → Prop} {f : Str} (h : ta σ H fun x H1 => ∃ a C dx fs v, x = .ref a ∧ H1 a = some (.ins C dx fs) ∧ Cls K C ∧ NoAttr K C f ∧ fs.lookup f = some v ∧
    tv σ H1 fun y H2 => rd v y H2 fun z H3 => ∃ dx' fs', H3 a = some (.ins C dx' fs') ∧ fs'.length < 1000 ∧ D.nx σ (upd H3 a (.ins C dx' (putF f z fs')))) : sFldAug K ta tv rd f D σ H := h
theorem r_rAdd {n m : Int} (h : Q (.int (n + m)) H) : rAdd (.int n) (.int m) H Q := ⟨n, m, rfl, rfl, h⟩
theorem r_chain {r r' : R2} {tc : TE} (h : ta σ H fun x H1 => tb σ H1 fun y H2 => r x y H2 fun z H3 => ∃ k, z = .bl k ∧ (if k = true then tc σ H3 fun w' H4 => r' y w' H4 Q else Q (.bl false) H3)) : tChain r r' ta tb tc σ H Q := h
/-- reads of a new object -/
theorem Same.new {H : Hp} {p : Addr} {o : HO} (h : H p = none) : Same H (upd H p o) := fun c u e => by
  rw [upd_ne (ne_of_none e h)]; exact e
end
section
variable {X : Cx} {x : Str} {pos : Pos}
theorem pgS {z : Str} {t : Tok} (hg : Gl X x) (hm : X.mg x = some (.str z t)) (hd : (x == ("__debug__" : Str)) = false := by decide) : PE X (.Name x pos) (tC (.str z)) := pe_glob hg hm ⟨t, rfl⟩ hd
theorem pgI {n : Int} {t : Tok} (hg : Gl X x) (hm : X.mg x = some (.int n t)) (hd : (x == ("__debug__" : Str)) = false := by decide) : PE X (.Name x pos) (tC (.int n)) := pe_glob hg hm ⟨t, rfl⟩ hd
theorem pgR {p : Addr} (hg : Gl X x) (hm : X.mg x = some (.ref p)) (hd : (x == ("__debug__" : Str)) = false := by decide) : PE X (.Name x pos) (tC (.ref p)) := pe_glob hg hm rfl hd
theorem ptT {n : String} (hg : Gl X x) (hm : X.mg x = none) (hv : bootBuiltins x = some (.type n)) (hn : x ≠ "__name__" := by decide) (hd : (x == ("__debug__" : Str)) = false := by decide) : PE X (.Name x pos) (tC (.ty n)) := pe_bltn hg hm hv rfl hn hd
end
/-- a call of a local name that holds one of several defs -/
def tCallH (i : Nat) (R : Addr → Sp → Prop) (t : TA) : TE := fun σ H Q => ∃ f sp, σ[i]? = some (some (.ref f)) ∧ R f sp ∧ t σ H fun vs H1 => sp vs H1 Q (fun _ _ _ => False)
theorem pe_callH {X : Cx} {R : Addr → Sp → Prop} {k i : Nat} {x : Str} {p pos : Pos} {e : Expr} {es : List Expr} {t : TA} (A : ∀ f sp, R f sp → Held X.prog X.w X.K X.mg X.base k f sp) (hr : Room k X.A) (hN : X.N[i]? = some x) (hv : Vis X.env.scope x) (ha : PA X (e :: es) t)
    (hdb : (x == ("__debug__" : Str)) = false := by decide) (hcd : (x == ("__classdict__" : Str)) = false := by decide)
    (he : starEach (e :: es) X.env = (false, eval e X.env) :: starEach es X.env := by rfl) (hpl : (backTo pos (starEach es X.env)).any (·.1) = false := by rfl) : PE X (.Call (.Name x p) (e :: es) [] pos) (tCallH i R t) := by
  refine ⟨fun pins s σ H Q I h => ?_⟩
  obtain ⟨f, sp, hs, hS, ht⟩ := h
  exact (pe_callA (i := i) (S := fun g => if g = f then some sp else none) (fun g sp' e => by
    by_cases h : g = f
    · rw [if_pos h] at e; cases e; subst h; exact A _ _ hS
    · rw [if_neg h] at e; cases e) hr hN hv ha hdb hcd he hpl).run pins s σ H Q I ⟨f, sp, hs, if_pos rfl, ht⟩
theorem r_callH {i : Nat} {R : Addr → Sp → Prop} {t : TA} {σ : St} {H : Hp} {Q : VK} (h : ∃ f sp, σ[i]? = some (some (.ref f)) ∧ R f sp ∧ t σ H fun vs H1 => sp vs H1 Q (fun _ _ _ => False)) : tCallH i R t σ H Q := h
end Sw

/-! sorted(d) of a dict whose keys are pairs of ints. -/
namespace Sw
open PySem PySem.Spec PyProof.Rows L2
/-- the pair of ints that lies there -/
def pairAt (H : Hp) : Value → Int × Int
  | .ref b => match H b with
    | some (.tup [.int i, .int j]) => (i, j)
    | _ => (0, 0)
  | _ => (0, 0)
theorem pairAt_of {H : Hp} {b : Addr} {i j : Int} (h : H b = some (.tup [.int i, .int j])) : pairAt H (.ref b) = (i, j) := by
  unfold pairAt; dsimp only; rw [h]
def refOf : Value → Addr
  | .ref b => b
  | _ => 0
def rSortedDP : List V → Hp → VK → Prop := fun xs H Q => ∃ (d : Addr) (kvs : List (List Key × V)) (ks : List (Int × Int)), xs = [V.ref d] ∧ Rd H d (.dT kvs) ∧ kvs.map (·.1) = ks.map (fun p => [Sum.inl p.1, Sum.inl p.2]) ∧
  ∀ (ys : List Addr) (zs : List (Int × Int)) (p : Addr), zs.Perm ks → zs.Pairwise (fun x y => SrtO.lexB y x = false) → H p = none → Paired (fun b (z : Int × Int) => H b = some (.tup [.int z.1, .int z.2])) ys zs → Q (.ref p) (upd H p (.lst (ys.map V.ref)))
theorem keys_pairs {H : Hp} {kvs : List (List Key × V)} {xs : List (List Key × Addr × Value)} (r : KT H kvs xs) : ∀ {ks : List (Int × Int)}, kvs.map (·.1) = ks.map (fun p => [Sum.inl p.1, Sum.inl p.2]) →
    Paired (fun b (z : Int × Int) => H b = some (.tup [.int z.1, .int z.2])) (xs.map fun x => x.2.1) ks := by
  induction r with
  | nil => intro ks h; cases ks with
    | nil => exact .nil
    | cons _ _ => simp at h
  | cons h t ih => intro ks e; cases ks with
    | nil => simp at e
    | cons k r =>
      rw [List.map_cons, List.map_cons, List.cons.injEq] at e
      refine .cons ?_ (ih e.2)
      rw [h.2.1, e.1]
      rfl
theorem paired_map {H : Hp} : ∀ {bs : List Addr} {ks : List (Int × Int)}, Paired (fun b (z : Int × Int) => H b = some (.tup [.int z.1, .int z.2])) bs ks → (bs.map Value.ref).map (pairAt H) = ks
  | _, _, .nil => rfl
  | _, _, .cons h t => by
    rw [List.map_cons, List.map_cons, paired_map t, pairAt_of h]
theorem paired_mem {H : Hp} : ∀ {bs : List Addr} {ks : List (Int × Int)}, Paired (fun b (z : Int × Int) => H b = some (.tup [.int z.1, .int z.2])) bs ks → ∀ b ∈ bs, ∃ i j, H b = some (.tup [.int i, .int j])
  | _, _, .nil, _, h => by cases h
  | _, _, .cons h t, b, hb => by
    rcases List.mem_cons.mp hb with e | hb
    · rw [e]; exact ⟨_, _, h⟩
    · exact paired_mem t b hb
theorem paired_out {H : Hp} : ∀ out : List Value, (∀ v ∈ out, ∃ b i j, v = .ref b ∧ H b = some (.tup [.int i, .int j])) → Paired (fun b (z : Int × Int) => H b = some (.tup [.int z.1, .int z.2])) (out.map refOf) (out.map (pairAt H))
  | [], _ => .nil
  | v :: r, h => by
    obtain ⟨b, i, j, rfl, e⟩ := h v (List.mem_cons_self ..)
    rw [List.map_cons, List.map_cons]
    refine .cons ?_ (paired_out r fun v hv => h v (List.mem_cons_of_mem _ hv))
    show H b = _
    rw [pairAt_of e]
    exact e
theorem vals_refOf : ∀ out : List Value, (∀ v ∈ out, ∃ b, v = .ref b) → Vals ((out.map refOf).map V.ref) out
  | [], _ => .nil
  | v :: r, h => by
    obtain ⟨b, rfl⟩ := h v (List.mem_cons_self ..)
    exact .cons rfl (vals_refOf r fun v hv => h v (List.mem_cons_of_mem _ hv))
section
variable {X : Cx}
theorem cr_sortedDP (hc : X.calm = true) : CallR X (.builtin "sorted") rSortedDP := by
  intro pins s σ H xs us Q I r h
  obtain ⟨d, kvs, ks, rfl, hd, hks, q⟩ := h
  obtain ⟨u, rfl, rx⟩ := r.one
  cases rx
  obtain ⟨z, hs, kx, pr, o, es, ep, ho, hx, hdt, he, hn⟩ := (show ObjOk X.prog X.w H s.heap d (.dT kvs) from hd.ok I.hok)
  have l1 : es.size = kx.length := size_of_entries he
  have l2 : kvs.length = kx.length := PySem.Paired.length pr
  have hp := keys_pairs pr hks
  have h16 : es.size ≤ sizeLine := by omega
  refine Calls.call_function_entry kind_sorted plain_sorted
    entry_sorted (args_sorted1 _) ?_
  unfold Builtin.«sorted»
  refine wpAny_bind
    (m := checkCount "sorted" 1 1 _) (wpAny_pure ?_)
  refine wpAny_bind (PySem.W.kdu_collect (A := X.A.in1) (kdl_raw hs hx hdt) (I.ok.hd hc) ho h16 fun h' tk acc hk it => ?_)
  have hl : acc.toList.length = kx.length := by rw [Array.length_toList, it.1]; exact l1
  have ea : acc.toList = (kx.map fun x => x.2.1).map Value.ref := by
    rw [List.map_map]
    apply List.ext_getElem?
    intro j
    rw [List.getElem?_map]
    cases hj : acc.toList[j]? with
    | none =>
      have h1 := List.getElem?_eq_none_iff.mp hj
      rw [List.getElem?_eq_none (by omega)]
      rfl
    | some v =>
      obtain ⟨en, hen, hv⟩ := it.2 j v
        (by rw [← Array.getElem?_toList]; exact hj)
      have qe := entry_at he j
      rw [hen] at qe
      cases hb : kx[j]? with
      | none =>
        rw [hb] at qe
        exact nomatch (show some en = none from qe)
      | some b =>
        rw [hb] at qe
        have e2 : en = entryOfKey
          (tupleKind (mixKind X.prog X.w)) b := Option.some.inj qe
        rw [hv, e2]
        rfl
  have hal : ∀ v ∈ acc.toList, ∃ b i j, v = Value.ref b ∧ H b = some (.tup [.int i, .int j]) := by
    rw [ea]
    intro v hv
    obtain ⟨b, hb, rfl⟩ := List.mem_map.mp hv
    obtain ⟨i, j, e⟩ := paired_mem hp b hb
    exact ⟨b, i, j, rfl, e⟩
  have I1 : Inv X pins σ H
      { s with heap := h', toks := tk } := I.kept hk
  refine wpAny_bind (wpAny_newList ?_ (by rw [hl]; omega))
  have hoL : (h'.push (seqObj "list" acc.toList.toArray 0)).get?
      h'.objs.size = some (seqObj "list" acc.toList.toArray 0) := Heap.get?_push_size _ rfl
  show wpAny _ _ _ _ _
    { s with heap := h'.push (seqObj "list" acc.toList.toArray 0), toks := tk }
  have hpair : ∀ v ∈ acc.toList, Srt.IsPair (h'.push (seqObj "list" acc.toList.toArray 0)) v (pairAt H v).1 (pairAt H v).2 := fun v hv => by
    obtain ⟨b, i, j, rfl, e⟩ := hal v hv
    rw [pairAt_of e]
    obtain ⟨_, its2, r2, o, ho, hc, n, hd⟩ := I1.hok _ _ e
    obtain ⟨u1, u2, rfl, ri, rj⟩ := vals2 r2
    obtain ⟨t1, rfl⟩ := ri
    obtain ⟨t2, rfl⟩ := rj
    exact ⟨b, o, t1, t2, n, rfl, Heap.get?_push_of_some _ ho, hc, hd⟩
  refine wpAny_bind (wpAny_holding (wpAny_call_entry
    slot_list_sort ⟨_, hoL, rfl⟩ entry_list_sort (SrtO.list_sort_ord (s := { s with heap := h'.push (seqObj "list" acc.toList.toArray 0), toks := tk }) (SrtO.swo_lex (pairAt H)) hoL (by rw [hl]; omega) (fun h2 => SrtO.pairs_sortableO (by omega) hpair fun o e c => ?_) fun out g1 g2 => ⟨_, rfl, ?_⟩) (PyProof.Rows.args_list_sort _)))
  · have e' : some o = some (seqObj "list" acc.toList.toArray 0) := e.symm.trans hoL
    cases e'
    exact absurd (Value.type.inj c) (by decide)
  · have hout : ∀ v ∈ out, ∃ b i j, v = Value.ref b ∧ H b = some (.tup [.int i, .int j]) := fun v hv => hal v (g2.perm.mem_iff.mp hv)
    obtain ⟨e', he'⟩ := PyProof.Rows.sortedHeap_at (vs := acc.toList) (out := out.toArray) hoL
    have hlen : ((out.map refOf).map V.ref).length ≤ sizeLine := by
      rw [List.length_map, List.length_map, g2.perm.length_eq, hl]
      omega
    refine wpAny_pure ⟨_, rfl, .ref h'.objs.size, upd H h'.objs.size (.lst ((out.map refOf).map V.ref)), I1.laid (t' := tk) (fun b u e => ?_) (Nat.le_refl _)
      (show ObjOk X.prog X.w _ _ _ (.lst ((out.map refOf).map V.ref)) from ⟨hlen, out, e', vals_refOf out fun v hv => let ⟨b, _, _, e, _⟩ := hout v hv; ⟨b, e⟩, he'⟩), rfl, q _ (out.map (pairAt H)) _ ?_ ?_ (I1.hok.fresh (Nat.le_refl _)) (paired_out out hout)⟩
    · have hb : b < h'.objs.size := Heap.lt_size e
      rw [sortedHeap_old (Nat.ne_of_lt hb)
        (by rw [size_push']; exact Nat.lt_succ_of_lt hb)]
      exact Heap.get?_push_of_some _ e
    · have := g2.perm.map (pairAt H)
      rw [ea, paired_map hp] at this
      exact this
    · exact List.pairwise_map.mpr g1
end
/-! ### 'c'.join(e).replace('y', 'z') -/
/-- as PE, and a token is out behind it -/
def PKt (X : Cx) (e : Expr) (t : TE) : Prop := ∀ (pins : List (Addr × Obj)) (s : Shared) (σ : L2.St) (H : Hp) (Q : VK), L2.Inv X pins σ H s → t σ H Q →
  wpAny (model X.prog X.w) X.A (eval e X.env) (fun v s1 => 1 ≤ s1.toks ∧ EP X pins σ Q v s1) X.xe s
def rJoin (K : PySem.W.Frag) : V → List V → Hp → VK → Prop := fun x xs H Q => ∃ a p, ∃ ys : List Str, x = .str a ∧ xs = [.ref p] ∧ (SqL K H p (ys.map V.str) ∨ SqT K H p (ys.map V.str)) ∧ (ys.map (·.length)).sum + ys.length * a.length ≤ 16777216 ∧ Q (.str (Txt.join a ys)) H
section
variable {X : Cx} {e : Expr} {te to : TE} {c y z : Str} {i j k : Nat} {cp c0 c1 apos pos : Pos} {o : Expr}
theorem pk_join (he : PE X e te)
    (h1 : starEach [e] X.env = [(false, eval e X.env)] := by rfl)
    (h2 : attributeBase (.Constant (.str c) i cp) "join" X.env (eval (.Constant (.str c) i cp) X.env) = eval (.Constant (.str c) i cp) X.env := by rfl)
    (h3 : (apos.endLine == pos.line) = true := by rfl) :
    PKt X (.Call (.Attribute (.Constant (.str c) i cp) "join" apos) [e] [] pos) (tM1 (rJoin X.K) (tC (.str c)) te) := by
  intro pins s σ H Q I h
  refine PySem.Call_method1 h2 h1 h3 (Calls.Constant_str ?_)
  obtain ⟨_, q1⟩ := (show (∃ a, V.str c = .str a) ∧ _ from h)
  refine ⟨"str", _, F.plainAttrs_str, F.slot_str_join, F.type_str_join, typeIs_str _ _ _, (fun _ e => nomatch e), ?_⟩
  refine Calls.callWith_builtin rfl (Calls.evalArgs_plain (Calls.spliced_cons ?_))
  have I1 : Inv X pins σ H { s with toks := s.toks + 1 } := I.tok _
  refine wpAny_mono (wpAny_toks_of (n := 1) (by show 1 ≤ s.toks + 1; omega) (he.run pins _ σ H _ I1 q1)) (fun u s2 hq => ?_) fun _ _ q => q.2
  obtain ⟨hk, y, H2, I2, r2, q2⟩ := hq
  refine Calls.spliced_nil ?_
  exact wpAny_mono (wpAny_toks_of (n := 1) hk (mt_join pins s2 σ H2 (.str c) [y] _ [u] Q I2 ⟨_, rfl⟩ (.cons r2 .nil) q2)) (fun _ _ q => q) fun _ _ q => q.2
theorem pe_replK (ho : PKt X o to) (hyz : (y == z) = false := by decide)
    (h1 : starEach [.Constant (.str y) j c0, .Constant (.str z) k c1] X.env = [(false, eval (.Constant (.str y) j c0) X.env), (false, eval (.Constant (.str z) k c1) X.env)] := by rfl) (h2 : attributeBase o "replace" X.env (eval o X.env) = eval o X.env := by rfl) (h3 : (apos.endLine == pos.line) = true := by rfl) :
    PE X (.Call (.Attribute o "replace" apos) [.Constant (.str y) j c0, .Constant (.str z) k c1] [] pos) (CwR.tReplC to y z) := by
  refine ⟨fun pins s σ H Q I h => ?_⟩
  refine PySem.Call_method2 h2 h1 h3 ?_
  have hp := ho pins s σ H _ I h
  refine wpAny_mono hp (fun v s1 hq => ?_) fun _ _ q => q
  obtain ⟨hk, v', H1, I1, r1, x, e1, hb, q⟩ := hq
  cases e1
  obtain ⟨tx, rfl⟩ := r1
  refine ⟨"str", _, F.plainAttrs_str, F.slot_str_replace, F.type_str_replace, typeIs_str _ _ _, (fun _ e => nomatch e), ?_⟩
  refine Calls.callWith_builtin rfl (Calls.evalArgs_plain (Calls.spliced_cons (Calls.Constant_str (Calls.spliced_cons (Calls.Constant_str (Calls.spliced_nil ?_))))))
  have n1 : s1.toks ≠ 0 := by omega
  have n2 : s1.toks + 1 ≠ 0 := by omega
  have n3 : s1.toks ≠ s1.toks + 1 := by omega
  exact PySem.SC.replace n1 n2 n3 hyz hb fun t' k' => ⟨.str (Txt.replace x y z), H1, I1.tok k', ⟨t', rfl⟩, q⟩
end
end Sw

/-! Dicts whose keys are nested tuples: situations. -/
namespace Sw
open PySem PySem.Spec PyProof.Rows L2
mutual
/-- a value that is such a key, by the tracked tuples -/
inductive NK (H : Hp) : NestedKey → V → Prop
  | num (i : Int) : NK H (.num i) (.int i)
  | bl {b : Bool} {i : Int} (e : i = if b = true then 1 else 0) : NK H (.num i) (.bl b)
  | txt (z : Str) : NK H (.text z) (.str z)
  | tup {p : Addr} {vs : List V} {ks : List NestedKey} (e : H p = some (.tup vs)) (t : NKs H ks vs) : NK H (.tup ks) (.ref p)
inductive NKs (H : Hp) : List NestedKey → List V → Prop
  | nil : NKs H [] []
  | cons {k : NestedKey} {v : V} {ks : List NestedKey} {vs : List V} (h : NK H k v) (t : NKs H ks vs) : NKs H (k :: ks) (v :: vs)
end
mutual
theorem NK.nis {P : Program} {w : World} {H : Hp} {h : Heap} (ok : HOk P w H h) : ∀ (k : NestedKey) (v : V) (u : Value), NK H k v → RelV v u → NestedIs h k u
  | .none, _, _, x, _ => by cases x
  | .num i, _, _, x, r => by
    cases x with
    | num => obtain ⟨t, rfl⟩ := r; exact .int _ _
    | bl e => cases r; exact .bool e
  | .text z, _, _, x, r => by cases x; obtain ⟨t, rfl⟩ := r; exact .text _ _
  | .tup ks, _, _, x, r => by
    cases x with
    | @tup p vs _ e t =>
      cases r
      obtain ⟨_, its, rv, ob, h1, h2, n, h3⟩ := (show ObjOk P w H h p (.tup vs) from ok p _ e)
      exact .tup h1 h2 h3 (NKs.nis ok ks vs its t rv)
theorem NKs.nis {P : Program} {w : World} {H : Hp} {h : Heap} (ok : HOk P w H h) : ∀ (ks : List NestedKey) (vs : List V) (us : List Value), NKs H ks vs → Vals vs us → NestedAll h ks us
  | [], _, _, x, r => by cases x; cases r; exact .nil
  | k :: ks, _, _, x, r => by
    cases x with
    | cons a b =>
      cases r with
      | cons ra rb => exact .cons (NK.nis ok k _ _ a ra) (NKs.nis ok ks _ _ b rb)
end
mutual
theorem NK.mv {H H' : Hp} (s : ∀ p xs, H p = some (.tup xs) → H' p = some (.tup xs)) : ∀ (k : NestedKey) (v : V), NK H k v → NK H' k v
  | .none, _, x => by cases x
  | .num i, _, x => by
    cases x with
    | num => exact .num _
    | bl e => exact .bl e
  | .text z, _, x => by cases x; exact .txt _
  | .tup ks, _, x => by
    cases x with
    | tup e t => exact .tup (s _ _ e) (NKs.mv s ks _ t)
theorem NKs.mv {H H' : Hp} (s : ∀ p xs, H p = some (.tup xs) → H' p = some (.tup xs)) : ∀ (ks : List NestedKey) (vs : List V), NKs H ks vs → NKs H' ks vs
  | [], _, x => by cases x; exact .nil
  | k :: ks, _, x => by
    cases x with
    | cons a b => exact .cons (NK.mv s k _ a) (NKs.mv s ks _ b)
end
/-- what stands at a dict of nested keys -/
def ndO (P : Program) (w : World) (d : Addr) (xs : List (NestedKey × Addr × Value)) : HO := .ext fun h => (d == sysModules) = false ∧ (xs.map (·.1)).Nodup ∧
  ∃ o es ep, h.get? d = some o ∧ o.ExactDict ∧ o.data = .dict es ep ∧ es.toList = xs.map (entryOfKey (nestedKind P w))
abbrev KNs (H : Hp) : List (NestedKey × V) → List (NestedKey × Addr × Value) → Prop := Paired fun p q => p.1 = q.1 ∧ (NK H p.1 (.ref q.2.1) ∧ p.1.depth ≤ 8) ∧ RelV p.2 q.2.2
/-- the dict at d holds kvs -/
structure NDAt (P : Program) (w : World) (H : Hp) (d : Addr) (kvs : List (NestedKey × V)) : Prop where
  z : kvs.length ≤ sizeLine
  ob : ∃ xs, H d = some (ndO P w d xs) ∧ KNs H kvs xs
theorem NDAt.mv {P : Program} {w : World} {H H' : Hp} {d : Addr} {kvs : List (NestedKey × V)} (n : NDAt P w H d kvs) (e : H' d = H d) (s : ∀ p xs, H p = some (.tup xs) → H' p = some (.tup xs)) : NDAt P w H' d kvs := by
  obtain ⟨z, xs, h1, h2⟩ := n
  exact ⟨z, xs, e.trans h1, Paired.mapP h2 fun _ _ q => ⟨q.1, ⟨NK.mv s _ _ q.2.1.1, q.2.1.2⟩, q.2.2⟩⟩
theorem KNs.val {H : Hp} {kvs : List (NestedKey × V)} {xs : List (NestedKey × Addr × Value)} (r : KNs H kvs xs) (k : NestedKey) : RelO (valV kvs k) ((atKey xs k).map (·.2)) := by
  induction r with
  | nil => trivial
  | @cons p q ps qs h t ih =>
    by_cases e : p.1 = k
    · have b : atKey (q :: qs) k = some q.2 := by
        have e' : q.1 = k := h.1 ▸ e
        simp [atKey, List.find?_cons, e']
      rw [valV_pos e, b]
      exact h.2.2
    · have b : atKey (q :: qs) k = atKey qs k := by
        have e' : ¬ q.1 = k := fun z => e (h.1.trans z)
        simp [atKey, List.find?_cons, e']
      rw [valV_neg e, b]
      exact ih
theorem KNs.repl {H : Hp} {kvs : List (NestedKey × V)} {xs : List (NestedKey × Addr × Value)} (r : KNs H kvs xs) (k : NestedKey) {y : V} {u : Value} (ry : RelV y u) :
    KNs H (kvs.map fun kv => if kv.1 = k then (kv.1, y) else kv) (xs.map (PySem.putAt k u)) := by
  induction r with
  | nil => exact .nil
  | @cons p q ps qs h t ih =>
    refine .cons ?_ ih
    unfold PySem.putAt
    dsimp only
    by_cases e : p.1 = k
    · rw [if_pos e, if_pos (h.1 ▸ e)]
      exact ⟨h.1, h.2.1, ry⟩
    · rw [if_neg e, if_neg fun z => e (h.1.trans z)]
      exact h
theorem KNs.put {H : Hp} {kvs : List (NestedKey × V)} {xs : List (NestedKey × Addr × Value)} (r : KNs H kvs xs) (k : NestedKey) {b : Addr} {y : V} {u : Value} (hb : NK H k (.ref b)) (hd : k.depth ≤ 8) (ry : RelV y u) :
    KNs H (putK kvs k y) (storedH xs k b u) := by
  have e : (kvs.any fun kv => decide (kv.1 = k)) = (atKey xs k).isSome := by
    have q := (r.val k).isSome_eq
    rw [Option.isSome_map] at q
    rw [valV_any, q]
  unfold putK storedH
  rw [e]
  cases q : (atKey xs k).isSome with
  | true => rw [if_pos rfl, if_pos rfl]; exact r.repl k ry
  | false =>
    rw [if_neg Bool.false_ne_true, if_neg Bool.false_ne_true]
    exact Paired.snoc r ⟨rfl, ⟨hb, hd⟩, ry⟩
section
variable {P : Program} {w : World} {H : Hp} {h : Heap} {d : Addr} {kvs : List (NestedKey × V)} {k : NestedKey} {b : Addr}
theorem nd_of {xs : List (NestedKey × Addr × Value)} (ok : HOk P w H h) (e : H d = some (ndO P w d xs)) (r : KNs H kvs xs) : (d == sysModules) = false ∧ h.DictOfH (nestedKind P w) d xs := by
  obtain ⟨⟨h1, hn, o, es, ep, h2, h3, h4, h5⟩, _⟩ := (show ObjOk P w H h d (ndO P w d xs) from ok d _ e)
  refine ⟨h1, o, es, ep, h2, h3, h4, h5, ?_, hn⟩
  have all : ∀ {l : List (NestedKey × V)} {m : List (NestedKey × Addr × Value)}, KNs H l m → ∀ x ∈ m, (nestedKind P w).is h x.1 x.2.1 := by
    intro l m q
    induction q with
    | nil => intro x hx; cases hx
    | cons hq t ih =>
      intro x hx
      cases List.mem_cons.mp hx with
      | inl e =>
        subst e
        obtain ⟨q1, q2, _⟩ := hq
        rw [q1] at q2
        exact ⟨NK.nis ok _ _ _ q2.1 rfl, q2.2⟩
      | inr hx => exact ih x hx
  exact all r
theorem nk_of (ok : HOk P w H h) (n : NK H k (.ref b)) (hd : k.depth ≤ 8) : (nestedKind P w).is h k b := ⟨NK.nis ok _ _ _ n rfl, hd⟩
/-- the object's own description, from what the library says of it -/
theorem nd_ext {xs : List (NestedKey × Addr × Value)} {H' : Hp} {h' : Heap} (hs : (d == sysModules) = false) (dd : h'.DictOfH (nestedKind P w) d xs) : ObjOk P w H' h' d (ndO P w d xs) := by
  obtain ⟨o, es, ep, h2, h3, h4, h5, _, h6⟩ := dd
  exact ⟨⟨hs, h6, o, es, ep, h2, h3, h4, h5⟩, ⟨o, h2⟩, fun g1 g2 ⟨a1, a2, o', es', ep', a3, a4⟩ q => ⟨a1, a2, o', es', ep', q _ a3, a4⟩⟩
theorem n_room {A : Around} (hu : A.units + 64 < cLine) : (nestedKind P w).room A.in1 := by
  show A.in1.units + 8 < cLine
  rw [Around.in1_units]
  omega
end
/-- what d[y] is -/
def NGet (P : Program) (w : World) (H : Hp) (a : Addr) (y : V) (o : Option V) : Prop := ∃ kvs k b, NDAt P w H a kvs ∧ y = .ref b ∧ NK H k y ∧ k.depth ≤ 8 ∧ o = valV kvs k
def tNGet (P : Program) (w : World) (td ty : TE) : TE := fun σ H Q => td σ H fun x H1 => ty σ H1 fun y H2 => ∃ a v, x = .ref a ∧ NGet P w H2 a y (some v) ∧ Q v H2
def tNIn (P : Program) (w : World) (neg : Bool) (ty td : TE) : TE := fun σ H Q => ty σ H fun y H1 => td σ H1 fun x H2 => ∃ a o, x = .ref a ∧ NGet P w H2 a y o ∧ Q (.bl (if neg then !o.isSome else o.isSome)) H2
def sNPut (P : Program) (w : World) (td ty tv : TE) : TS := fun D σ H => tv σ H fun v H1 => td σ H1 fun x H2 => ty σ H2 fun y H3 => ∃ a kvs k b, x = .ref a ∧ NDAt P w H3 a kvs ∧ y = .ref b ∧ NK H3 k y ∧ k.depth ≤ 8 ∧ kvs.length < sizeLine ∧
  ∀ H4, NDAt P w H4 a (putK kvs k v) → (∀ c, c ≠ a → H4 c = H3 c) → D.nx σ H4
def tNNew (P : Program) (w : World) : TE := fun _ H Q => ∀ p H', H p = none → NDAt P w H' p [] → (∀ c, c ≠ p → H' c = H c) → Q (.ref p) H'
section
variable {X : Cx} {o i e value : Expr} {pos pos' : Pos} {td ty tv : TE}
theorem pe_nget (hu : X.A.units + 64 < cLine) (ho : PE X o td) (hi : PE X i ty) (hs : NoSl i) : PE X (.Subscript o i pos) (tNGet X.prog X.w td ty) := ⟨fun pins s σ H Q I h =>
  subD_of PySem.F.slot_dict_getitem.lookup hs (thn (ho.run pins s σ H _ I h) fun u s1 ⟨x, H1, I1, rx, q1⟩ => thn (hi.run pins s1 σ H1 _ I1 q1) fun iv s2 ⟨y, H2, I2, ry, a, v, ex, ⟨kvs, k, b, ⟨z, xs, hx, r⟩, ey, hk, hd, hv⟩, q2⟩ => by
    subst ex ey
    cases (show u = Value.ref a from rx)
    cases (show iv = Value.ref b from ry)
    obtain ⟨h1, h2⟩ := nd_of I2.hok hx r
    obtain ⟨w', hw, rw'⟩ := RelO.some_of (v := v) (o := (atKey xs k).map (·.2)) (by rw [hv]; exact r.val k)
    obtain ⟨p, hp, hp2⟩ := Option.map_eq_some_iff.mp hw
    refine ⟨h2.typeIs, wpAny_getItem_heap (n_room hu) (nk_of I2.hok hk hd) h2 hp ?_⟩
    exact ⟨v, H2, I2.tok _, by rw [hp2]; exact rw', q2⟩)⟩
theorem pc_nin (hu : X.A.units + 64 < cLine) (hi : PE X i ty) (ho : PE X o td) : PC X .In i o (tNIn X.prog X.w false ty td) := ⟨fun pins s σ H Q I h =>
  thn (hi.run pins s σ H _ I h) fun iv s1 ⟨y, H1, I1, ry, q1⟩ => thn (ho.run pins s1 σ H1 _ I1 q1) fun u s2 ⟨x, H2, I2, rx, a, ov, ex, ⟨kvs, k, b, ⟨z, xs, hx, r⟩, ey, hk, hd, hv⟩, q2⟩ => by
    subst ex ey
    cases (show u = Value.ref a from rx)
    cases (show iv = Value.ref b from ry)
    obtain ⟨h1, h2⟩ := nd_of I2.hok hx r
    have q := (r.val k).isSome_eq
    rw [Option.isSome_map] at q
    refine wpAny_in_heap (n_room hu) (nk_of I2.hok hk hd) h1 h2 ⟨_, H2, I2.tok _, ?_, q2⟩
    rw [hv, ← q]
    rfl⟩
theorem pc_nnotin (hu : X.A.units + 64 < cLine) (hi : PE X i ty) (ho : PE X o td) : PC X .NotIn i o (tNIn X.prog X.w true ty td) := ⟨fun pins s σ H Q I h =>
  thn (hi.run pins s σ H _ I h) fun iv s1 ⟨y, H1, I1, ry, q1⟩ => thn (ho.run pins s1 σ H1 _ I1 q1) fun u s2 ⟨x, H2, I2, rx, a, ov, ex, ⟨kvs, k, b, ⟨z, xs, hx, r⟩, ey, hk, hd, hv⟩, q2⟩ => by
    subst ex ey
    cases (show u = Value.ref a from rx)
    cases (show iv = Value.ref b from ry)
    obtain ⟨h1, h2⟩ := nd_of I2.hok hx r
    have q := (r.val k).isSome_eq
    rw [Option.isSome_map] at q
    refine notIn_keyed (kvs := pairsH xs) (n_room hu) (nk_of I2.hok hk hd) h1 ⟨xs, h2, rfl⟩ ⟨_, H2, I2.tok _, ?_, q2⟩
    rw [valueAt_pairsH, Option.isSome_map, hv, ← q]
    rfl⟩
theorem ps_nput (hu : X.A.units + 64 < cLine) (ho : PE X o td) (hi : PE X i ty) (hv : PE X value tv) (hs : swapsWith value (some (.Subscript o i pos')) pos.line X.env = pure false) :
    PS X (.Assign [.Subscript o i pos'] value pos) (sNPut X.prog X.w td ty tv) := ⟨fun pins s σ H D I h =>
  wpAny_Assign_Subscript (thn (hv.run pins s σ H _ I h) fun r s1 ⟨v, H1, I1, rv, q1⟩ => thn (ho.run pins s1 σ H1 _ I1 q1) fun u s2 ⟨x, H2, I2, rx, q2⟩ => thn (hi.run pins s2 σ H2 _ I2 q2) fun iv s3 ⟨y, H3, I3, ry, a, kvs, k, b, ex, ⟨z, xs, hx, rel⟩, ey, hk, hd, hl, q3⟩ => by
    subst ex ey
    cases (show u = Value.ref a from rx)
    cases (show iv = Value.ref b from ry)
    obtain ⟨h1, h2⟩ := nd_of I3.hok hx rel
    refine wpAny_setItem_heap (hsz := by rw [← Paired.length rel]; exact z) (n_room hu) (nk_of I3.hok hk hd) h2 fun h' dd hs' => ?_
    have he : ∃ q, h'.get? a = some q := let ⟨q, _, _, hq, _⟩ := dd; ⟨q, hq⟩
    have nt : ∀ p ys, H3 p = some (.tup ys) → upd H3 a (ndO X.prog X.w a (storedH xs k b r)) p = some (.tup ys) := fun p ys e => by
      rw [upd_ne (ne_of e hx fun z => nomatch z)]; exact e
    refine ⟨σ, _, d_write I3 (by rw [hx]; exact True.intro) hs' he (nd_ext h1 dd), q3 _ ⟨?_, _, upd_same, ?_⟩ fun c n => upd_ne n⟩
    · have := length_putK kvs k v
      omega
    · exact Paired.mapP (KNs.put rel k hk hd rv) fun _ _ q => ⟨q.1, ⟨NK.mv nt _ _ q.2.1.1, q.2.1.2⟩, q.2.2⟩) hs⟩
theorem pe_nnew : PE X (.Dict [] [] pos) (tNNew X.prog X.w) := ⟨fun pins s σ H Q I h =>
  wpAny_Dict_empty (by
    have hs : (s.heap.objs.size == sysModules) = false := beq_eq_false_iff_ne.mpr (Nat.ne_of_gt I.big)
    refine ⟨.ref s.heap.objs.size, _, I.laid (a := s.heap.objs.size) (o := ndO X.prog X.w s.heap.objs.size []) (t' := s.toks) (fun _ _ q => Heap.get?_push_of_some _ q) (Nat.le_refl _) (nd_ext hs (Heap.DictOfH.new s.heap)), rfl, ?_⟩
    exact h _ _ (I.hok.fresh (Nat.le_refl _)) ⟨Nat.zero_le _, [], upd_same, .nil⟩ fun c n => upd_ne n)⟩
/-- len of such a dict -/
def rLenN (P : Program) (w : World) : List V → Hp → VK → Prop := fun xs H Q => ∃ (p : Addr) (kvs : List (NestedKey × V)), xs = [.ref p] ∧ NDAt P w H p kvs ∧ Q (.int ((kvs.length : Nat) : Int)) H
theorem call_len_n : CallR X (.builtin "len") (rLenN X.prog X.w) := fun pins s σ H xs us Q I r ⟨p, kvs, ex, ⟨z, ys, hx, rel⟩, q⟩ => by
  subst ex
  obtain ⟨u, rfl, rx⟩ := vals1 r
  cases (show u = Value.ref p from rx)
  obtain ⟨h1, h2⟩ := nd_of I.hok hx rel
  have hl : kvs.length = ys.length := Paired.length rel
  refine call_len_dictH h1 h2 (by rw [← hl]; rw [sizeLine_eq] at z; omega) ?_
  rw [← hl]
  exact ⟨.int ((kvs.length : Nat) : Int), H, I.tok _, ⟨_, rfl⟩, q⟩
end
/-- a def with defaults, out of which no exception comes -/
theorem okD {P : Program} {w : World} {K : PySem.W.Frag} {mg : Str → Option Value} {base : Heap} {x qual : Str} {st : Stmt} {dvs : List V} {kws : List (Str × V)} {f : Addr} {fd : FuncData} {N ps : List Str} {k : Nat} {sp : Sp}
    (F : FunD K x qual (defArgs st) (defBody st) (defScope st) dvs kws f fd) (S : FnScope N ps (defScope st)) (hl : ∀ vs H Q E, sp vs H Q E → vs.length = ps.length)
    (hb : ∀ (cdv : Value) (A : Around) (outer : List Env) (s : Shared) (H : Hp) (vs : List V) (Q : VK) (E : XK), Room k (A.deeper (envOfC qual (defScope st) s.heap.objs.size f cdv)) → sp vs H Q E → ∃ t, PSs (cxOf CX0 P w K mg base N qual (defScope st) f cdv A outer s H E).nox (defBody st) t ∧
      t { nx := fun _ H' => Q .non H', rt := Q } (start N vs) H) : FnOk P w K mg base CX0 (k + 1) f fd ps sp :=
  FunD.ok F S hl fun cdv A outer s H vs Q E hr h => let ⟨t, h1, h2⟩ := hb cdv A outer s H vs Q E hr h; ⟨t, h1.nox, h2⟩
theorem r_callD {sp : Sp} {ds : List V} {E : XK} {ar : TA} {σ : L2.St} {H : Hp} {Q : VK} (h : ar σ H fun vs H1 => sp (vs ++ ds) H1 Q E) : tCall sp ds E ar σ H Q := h
def rLenQ (K : PySem.W.Frag) : List V → Hp → VK → Prop := fun xs H Q => ∃ p ys, xs = [V.ref p] ∧ (SqL K H p ys ∨ SqT K H p ys) ∧ Q (.int ys.length) H
/-! dict(l) of a list of pairs of such a key and a value -/
def mergeN (kvs : List (NestedKey × V)) : List (NestedKey × V) := kvs.foldl (fun acc kv => putK acc kv.1 kv.2) []
theorem mergeN_len {kvs : List (NestedKey × V)} : (mergeN kvs).length ≤ kvs.length := by
  have : ∀ (l acc : List (NestedKey × V)), (l.foldl (fun acc kv => putK acc kv.1 kv.2) acc).length ≤ acc.length + l.length := by
    intro l
    induction l with
    | nil => intro acc; exact Nat.le_refl _
    | cons x r ih =>
      intro acc
      have h1 := ih (putK acc x.1 x.2)
      have h2 := length_putK acc x.1 x.2
      rw [List.foldl_cons, List.length_cons]
      omega
  have h := this kvs []
  rw [List.length_nil, Nat.zero_add] at h
  exact h
theorem KNs.all {H : Hp} : ∀ {kvs : List (NestedKey × V)} {xs : List (NestedKey × Addr × Value)} {acc : List (NestedKey × V)} {bcc : List (NestedKey × Addr × Value)}, KNs H kvs xs → KNs H acc bcc → KNs H (kvs.foldl (fun acc kv => putK acc kv.1 kv.2) acc) (storedAllH bcc xs) := by
  intro kvs xs acc bcc r
  unfold KNs at r
  induction r generalizing acc bcc with
  | nil => intro q; exact q
  | @cons p q ps qs h t ih =>
    intro r0
    obtain ⟨h1, h2, h3⟩ := h
    have e : KNs H (putK acc p.1 p.2) (storedH bcc q.1 q.2.1 q.2.2) := by
      rw [← h1]
      exact KNs.put r0 p.1 h2.1 h2.2 h3
    exact ih e
/-- what the list holds: pairs of a key and a value -/
def PrsN (H : Hp) : List Addr → List (NestedKey × V) → Prop := Paired fun p kv => ∃ b, H p = some (.tup [.ref b, kv.2]) ∧ NK H kv.1 (.ref b) ∧ kv.1.depth ≤ 8
def rDictN (P : Program) (w : World) : List V → Hp → VK → Prop := fun vs H Q => ∃ (a : Addr) (ps : List Addr) (kvs : List (NestedKey × V)), vs = [.ref a] ∧ H a = some (.lst (ps.map V.ref)) ∧ PrsN H ps kvs ∧
  ∀ q H', H q = none → NDAt P w H' q (mergeN kvs) → (∀ c, c ≠ q → H' c = H c) → Q (.ref q) H'
section
variable {X : Cx}
theorem prs_of {pins : List (Addr × Obj)} {σ : L2.St} {H : Hp} {s : Shared} (I : Inv X pins σ H s) : ∀ {ps : List Addr} {kvs : List (NestedKey × V)}, PrsN H ps kvs →
    ∃ xs : List (NestedKey × Addr × Value), KNs H kvs xs ∧ xs.length = ps.length ∧ ∀ (j : Nat) (x : NestedKey × Addr × Value), xs[j]? = some x → ∃ b, ps[j]? = some b ∧ IsTup s.heap b #[.ref x.2.1, x.2.2]
  | _, _, .nil => ⟨[], .nil, rfl, fun j x e => by simp at e⟩
  | _, _, .cons (a := p) (b := kv) h t => by
    obtain ⟨xs, r, hl, hp⟩ := prs_of I t
    obtain ⟨b, h1, h2, h3⟩ := h
    obtain ⟨its, rv, ht, _⟩ := I.tuple (SqT.of h1)
    obtain ⟨u, y, ei, ru, ry⟩ := vals2 rv
    subst ei
    cases (show u = Value.ref b from ru)
    refine ⟨(kv.1, b, y) :: xs, .cons ⟨rfl, ⟨h2, h3⟩, ry⟩ r, by rw [List.length_cons, List.length_cons, hl], fun j x e => ?_⟩
    cases j with
    | zero =>
      cases (show (kv.1, b, y) = x from Option.some.inj e)
      exact ⟨p, rfl, ht⟩
    | succ j =>
      obtain ⟨c, e1, e2⟩ := hp j x (by simpa using e)
      exact ⟨c, by simpa using e1, e2⟩
theorem refs_are : ∀ {ps : List Addr} {us : List Value}, Vals (ps.map V.ref) us → us = ps.map Value.ref
  | [], us, r => by cases r; rfl
  | p :: ps, us, r => by
    cases r with
    | cons h t => cases h; rw [refs_are t]; rfl
theorem call_dict_n (hcalm : X.calm = true) (hu : X.A.units + 64 < cLine) : CallR X (.type "dict") (rDictN X.prog X.w) := fun pins s σ H vs us Q I r ⟨a, ps, kvs, ex, hq, hp, q⟩ => by
  subst ex
  obtain ⟨u, eu, rx⟩ := vals1 r
  subst eu
  cases (show u = Value.ref a from rx)
  obtain ⟨its, rv, ⟨o, n, ho, hc, hd, hdat⟩, hz⟩ := I.list (SqL.of hq)
  have ei := refs_are rv
  subst ei
  rw [List.length_map] at hz
  obtain ⟨xs, rel, hl, hpr⟩ := prs_of I hp
  have hlen : kvs.length = xs.length := Paired.length rel
  obtain ⟨prs, hprs⟩ : ∃ prs : List (Value × Value), prs = xs.map fun x => (Value.ref x.2.1, x.2.2) := ⟨_, rfl⟩
  have hpl : prs.length = ps.length := by rw [hprs, List.length_map, hl]
  have hok : PlainSeq "list" s.heap a (ps.map Value.ref).toArray ∧ PairItems s.heap (ps.map Value.ref).toArray (fun j => ps.getD j 0) prs := by
    refine ⟨⟨o, n, ho, hc, hd, hdat⟩, by rw [hpl]; simp, fun j k v e => ?_⟩
    rw [hprs, List.getElem?_map] at e
    cases ej : xs[j]? with
    | none => rw [ej] at e; cases e
    | some x =>
      rw [ej] at e
      cases e
      obtain ⟨b, e1, e2⟩ := hpr j x ej
      have e3 : ps.getD j 0 = b := by simp [List.getD, e1]
      dsimp only
      rw [e3]
      exact ⟨by simp [e1], .inl e2⟩
  have his : ∀ x ∈ xs, (nestedKind X.prog X.w).is s.heap x.1 x.2.1 := by
    have all : ∀ {l : List (NestedKey × V)} {m : List (NestedKey × Addr × Value)}, KNs H l m → ∀ x ∈ m, (nestedKind X.prog X.w).is s.heap x.1 x.2.1 := by
      intro l m z
      induction z with
      | nil => intro x hx; cases hx
      | cons hq t ih =>
        intro x hx
        cases List.mem_cons.mp hx with
        | inl e =>
          subst e
          obtain ⟨q1, q2, _⟩ := hq
          rw [q1] at q2
          exact ⟨NK.nis I.hok _ _ _ q2.1 rfl, q2.2⟩
        | inr hx => exact ih x hx
    exact all rel
  have hroom : (nestedKind X.prog X.w).room X.A.in1.in1 := by
    show X.A.in1.in1.units + 8 < cLine
    rw [Around.in1_units, Around.in1_units]
    omega
  refine call_dict_pairsH (knd := nestedKind X.prog X.w) (ps := xs) (PairArg.list a (ps.map Value.ref).toArray (fun j => ps.getD j 0) prs) (I.ok.hd hcalm) hroom hok ⟨by rw [hprs, List.length_map], fun i key v e => ?_⟩ (fun h' hk x hx => ?_) (by rw [hpl]; exact hz) fun h' tk dd hk => ?_
  · have e : prs[i]? = some (key, v) := e
    rw [hprs, List.getElem?_map] at e
    cases ej : xs[i]? with
    | none => rw [ej] at e; cases e
    | some x =>
      rw [ej] at e
      cases e
      exact ⟨x.1, x.2.1, rfl, rfl⟩
  · exact nestedKind_stays.stays (fun b ob vs m e _ => hk b ob (Nat.ne_of_lt (Heap.lt_size e)) (fun z => by cases z) e) (his x hx)
  · have hs : (s.heap.objs.size == sysModules) = false := beq_eq_false_iff_ne.mpr (Nat.ne_of_gt I.big)
    refine ⟨.ref s.heap.objs.size, _, I.laid (a := s.heap.objs.size) (o := ndO X.prog X.w s.heap.objs.size (storedAllH [] xs)) (t' := tk) (fun b o e => hk b o (fun z => by cases z) e) (Nat.le_refl _) (nd_ext hs dd), rfl, ?_⟩
    have nn := I.hok.fresh (Nat.le_refl s.heap.objs.size)
    have hm := mergeN_len (kvs := kvs)
    refine q _ _ nn ⟨by omega, _, upd_same, ?_⟩ fun c n => upd_ne n
    refine Paired.mapP (KNs.all rel (acc := []) (bcc := []) .nil) fun _ _ z => ⟨z.1, ⟨NK.mv (fun p ys e => ?_) _ _ z.2.1.1, z.2.1.2⟩, z.2.2⟩
    rw [upd_ne (ne_of_none e nn)]
    exact e
end
def rTupQ (K : PySem.W.Frag) : List V → Hp → VK → Prop := fun xs H Q => ∃ p ys, xs = [.ref p] ∧ ((SqL K H p ys ∧ ∀ l, H l = none → Q (.ref l) (upd H l (.tup ys))) ∨ SqT K H p ys ∧ Q (.ref p) H)
def rLstQ (K : PySem.W.Frag) : List V → Hp → VK → Prop := fun xs H Q => ∃ p ys, xs = [.ref p] ∧ (SqL K H p ys ∨ SqT K H p ys) ∧ ∀ l, H l = none → Q (.ref l) (upd H l (.lst ys))
theorem r_par3 {i j l : Nat} {ar : TA} {D : Ends} {σ : L2.St} {H : Hp} (h : ar σ H fun vs H1 => ∃ u v w, vs = [u, v, w] ∧ D.nx (((σ.set i (some u)).set j (some v)).set l (some w)) H1) : tPar3 i j l ar D σ H := h
/-- a list's count, K written out -/
theorem pe_lcount {X : Cx} {o e : Expr} {to : TE} {t : TA} {apos cpos : Pos} (K : PySem.W.Frag) (hK : X.K = K) (ho : PE X o to) (ha : PA X [e] t)
    (hbase : attributeBase o "count" X.env (eval o X.env) = eval o X.env := by rfl)
    (hfew : ((backTo cpos (starEach [e] X.env)).all (fun x => !x.1) && (backToKw cpos (keywordEach [] X.env)).all (fun x => x.1.isSome)
      && decide (([e] : List Expr).length + ([] : List Keyword).length + (if ([] : List Keyword).isEmpty then 0 else 1) < 30)) = true := by rfl)
    (hline : (apos.endLine == cpos.line) = true := by rfl) (hs : starEach [e] X.env = (false, eval e X.env) :: starEach [] X.env := by rfl) (hplain : (backTo cpos (starEach [] X.env)).any (·.1) = false := by rfl) :
    PE X (.Call (.Attribute o "count" apos) [e] [] cpos) (tBM K "list" (rCntI K) to t) := by
  subst hK
  exact pe_bm PySem.F.plainAttrs_list PySem.F.slot_list_count PySem.F.type_list_count mt_lcount ho ha hbase hfew hline hs hplain
end Sw

/-! A for loop in a generator's body. -/
namespace Sw
open PySem PySem.Spec PyProof.Rows L2 GenW
/-- an exception on its way out of a loop's code -/
abbrev outOf (env : Env) (e : Value) : Sem PySem.Fin := (do noteFrame e env; theTreesLotGoes e : Sem Unit).wrap (fun _ => .raise e) .raise id id
section
variable {M : Model} {A : Around} {R : GenEnd} {Y : Protocol} {n : Nat} {s₀ : Shared} {c : Code} {fs : List Frame} {s : Shared} {env : Env}
theorem segFor {K : Flow → Sem PySem.Fin} {J : Value → Sem PySem.Fin} {gd : Bool → Bool} {lv : List Value → List Value} {target iter : Expr} {body orelse : List Stmt} {pos : Pos}
    (h : wpAny M (A.over c fs) (eval iter env) (fun x s1 => wpAny M (A.over c fs) (pyIter x) (fun it s2 => ∀ p, Seg M A R Y n s₀ (.forLoop target it body orelse env) (M.den (.forLoop target it body orelse env))
      (.ret (fun r => ((match r with | .ok f => (.pure f : Sem Flow) | .error e => .raise e).onRaise (cameBack env)).wrap K J gd lv) none (gd false) (lv []) c p [] :: fs) s2)
      (fun x s' => Seg M A R Y n s₀ c (J x) fs s') s1) (fun x s' => Seg M A R Y n s₀ c (J x) fs s') s)
    (hs : ∀ x, foldedSetIterable iter env x = pure x) : Seg M A R Y n s₀ c ((exec (.For target iter body orelse pos) env).wrap K J gd lv) fs s := by
  rw [exec_For]
  refine seg_bind_wrap (wpAny_standAt ?_)
  refine seg_bind_wrap (wpAny_mono h (fun x s1 h1 => ?_) fun _ _ z => z)
  refine seg_bind_wrap (wpAny_of_eq (hs x) ?_)
  refine seg_bind_wrap (wpAny_standAt ?_)
  refine seg_bind_wrap (wpAny_holding (wpAny_mono h1 (fun it s2 h2 => ?_) fun _ _ z => z))
  exact seg_call h2
end
section
variable {prog : Program} {w : World} {A : Around} {R : GenEnd} {Y : Protocol} {n : Nat} {s₀ : Shared} {fs : List Frame} {s : Shared} {env : Env}
theorem segForLoop {target : Expr} {it : Value} {body : List Stmt}
    (h : wpAny (model prog w) (A.over (.forLoop target it body [] env) fs) (pyNext it) (fun r s1 => match r with
        | none => Seg (model prog w) A R Y n s₀ (.forLoop target it body [] env) (.pure (.again (.block [] env))) fs s1
        | some v => wpAny (model prog w) (A.over (.forLoop target it body [] env) fs) (letOwnedTupleGo target it v) (fun _ s2 =>
            wpAny (model prog w) (A.over (.forLoop target it body [] env) fs) (assign target env v) (fun _ s3 =>
              Seg (model prog w) A R Y n s₀ (.forLoop target it body [] env) ((execs body env).wrap (fun f => match f with
                | .next | .cont => .pure (.again (.forLoop target it body [] env))
                | .brk => .pure (.done .next)
                | .ret v => .pure (.done (.ret v))) (outOf env) id id) fs s3)
              (fun x s' => Seg (model prog w) A R Y n s₀ (.forLoop target it body [] env) (outOf env x) fs s') s2)
            (fun x s' => Seg (model prog w) A R Y n s₀ (.forLoop target it body [] env) (outOf env x) fs s') s1)
      (fun x s' => Seg (model prog w) A R Y n s₀ (.forLoop target it body [] env) (outOf env x) fs s') s) :
    Seg (model prog w) A R Y n s₀ (.forLoop target it body [] env) ((model prog w).den (.forLoop target it body [] env)) fs s := by
  have ex : ∀ e : Value, (fun e => (do noteFrame e env; theTreesLotGoes e : Sem Unit).bind (fun _ => (.raise e : Sem PySem.Fin))) e = outOf env e := fun e => Sem.bind_eq_wrap _ _
  show Seg _ A R Y n s₀ _ ((forTurn target it body [] env).onRaise (fun x => do noteFrame x env; theTreesLotGoes x)) fs s
  unfold forTurn
  rw [Sem.onRaise_eq_wrap]
  have fin : ∀ {x s'}, Seg (model prog w) A R Y n s₀ (.forLoop target it body [] env) (outOf env x) fs s' → Seg (model prog w) A R Y n s₀ (.forLoop target it body [] env) ((do noteFrame x env; theTreesLotGoes x : Sem Unit).bind (fun _ => (.raise x : Sem PySem.Fin))) fs s' := fun {x s'} hx => by
    have := ex x
    dsimp only at this
    rw [this]
    exact hx
  refine seg_bind_wrap (wpAny_standAt ?_)
  refine seg_bind_wrap (wpAny_onRaise (wpAny_mono h (fun r s1 h1 => ?_) fun x s' hx => wpAny_standAt ?_))
  · cases r with
    | none => exact h1
    | some v =>
      refine seg_bind_wrap (wpAny_mono h1 (fun _ s2 h2 => ?_) fun x s' hx => ?_)
      · refine seg_bind_wrap (wpAny_mono h2 (fun _ s3 h3 => ?_) fun x s' hx => ?_)
        · rw [Sem.bind_eq_wrap', Sem.wrap_wrap]
          rw [Sem.wrap_congr (execs body env) _ _ (K' := fun f => match f with
                | .next | .cont => .pure (.again (.forLoop target it body [] env))
                | .brk => .pure (.done .next)
                | .ret v => .pure (.done (.ret v))) (H' := outOf env) (fun f => by cases f <;> rfl)
              (fun e => by first | exact Sem.bind_eq_wrap _ _ | (show (do noteFrame e env; theTreesLotGoes e : Sem Unit).bind (fun _ => .raise e) = _; rw [Sem.bind_eq_wrap]))]
          exact h3
        · first | exact hx | exact fin hx
      · first | exact hx | exact fin hx
  · first | exact hx | exact fin hx
end
section
variable {X : Cx}
/-- a for loop in a generator's body: as of a def, and what is out -/
def tGFor (wi : TI) (g : TG) (tb : TGn) : TGn := fun D ys σ H => wi σ H fun J H1 => ∃ W : Nat → Nat → List V → L2.St → Hp → Prop, (∃ m, W 0 m ys σ H1) ∧ ∀ i m ys σ H, W i m ys σ H →
  (J.stop i H ∧ D.nx ys σ H) ∨ (J.go i H ∧ ∃ N : List V → L2.St → Hp → Prop, (∀ ys' σ' H', N ys' σ' H' → ∃ m', m' < m ∧ W (i + 1) m' ys' σ' H') ∧ ∀ x H', J.yld i H x H' → g x σ H' fun σ2 H2 => tb { D with nx := N, ct := N, bk := D.nx } ys σ2 H2)
theorem gs_for {tg iter : Expr} {body : List Stmt} {wi : TI} {g : TG} {tb : TGn} {pos : Pos} (hp : PassesOwn (model X.prog X.w) X.A X.env X.xe) (hcalm : X.calm = true) (hi : PI X tg iter wi) (hg : PG X tg g) (hb : GSs X body tb)
    (hs : ∀ x, foldedSetIterable iter X.env x = pure x := by intro _; rfl) : GS X (.For tg iter body [] pos) (tGFor wi g tb) := by
  refine ⟨fun A S ip R n ys s₀ c fs K J gd lv s σ H D gc hn k hI ht => ?_⟩
  obtain ⟨acc0, cc0, r0, I0⟩ := hI
  refine segFor ?_ hs
  rw [gc.over]
  refine wpAny_mono (hi.run _ s σ H _ I0 ht) (fun v s1 h1 => wpAny_mono h1 (fun itv s2 h2 p => ?_) fun x s' hx => k.exc n s₀ x s' hx) fun x s' hx => k.exc n s₀ x s' hx
  obtain ⟨it, fp, tn, Jt, H2, e, I2, T, st2, f2, W, ⟨m0, w0⟩, turn⟩ := h2
  subst e
  have gl := fun (kk : Result → Sem PySem.Fin) => gc_loop (k := kk) (c' := .forLoop tg (.ref it) body [] X.env) (l := lv []) (kp := []) (p := p) gc rfl rfl
  have stat : ∀ {acc cc H'}, (∀ b ∈ fp, H' b = none) → ∀ b ∈ fp, FpOk X ((S, lstObj acc cc) :: ip) H' b := fun {acc cc H'} hnn b hb => by
    obtain ⟨_, f3, f4, f5, f6, f7⟩ := f2 b hb
    refine ⟨hnn b hb, f3, f4, f5, f6, fun q hq => ?_⟩
    rcases List.mem_append.mp hq with hq | hq
    · exact f7 q (List.mem_append_left _ hq)
    · rcases List.mem_cons.mp hq with hq | hq
      · rw [hq]
        exact f7 (S, lstObj acc0 cc0) (List.mem_append_right _ List.mem_cons_self)
      · exact f7 q (List.mem_append_right _ (List.mem_cons_of_mem _ hq))
  have loop : ∀ (m i n : Nat) (ys : List V) (s₀ s : Shared) (σ : L2.St) (H : Hp) (acc : Array Value) (cc : Nat), n + ys.length = sizeLine → W i m ys σ H → Vals ys acc.toList → Inv X ((S, lstObj acc cc) :: ip) σ H s → tn i s.heap → (∀ b ∈ fp, H b = none) →
      Seg (model X.prog X.w) A R (GY X S) n s₀ (.forLoop tg (.ref it) body [] X.env) ((model X.prog X.w).den (.forLoop tg (.ref it) body [] X.env))
        (.ret (fun r => ((match r with | .ok f => (.pure f : Sem Flow) | .error e => .raise e).onRaise (cameBack X.env)).wrap K J gd lv) none (gd false) (lv []) c p [] :: fs) s := by
    intro m
    induction m using Nat.strongRecOn with
    | ind m ih =>
      intro i n ys s₀ s σ H acc cc hn w hr I st fr
      have ee : ∀ (n : Nat) (s₀ : Shared) (x : Value) (s' : Shared), X.xe x s' → Seg (model X.prog X.w) A R (GY X S) n s₀ (.forLoop tg (.ref it) body [] X.env) (outOf X.env x)
          (.ret (fun r => ((match r with | .ok f => (.pure f : Sem Flow) | .error e => .raise e).onRaise (cameBack X.env)).wrap K J gd lv) none (gd false) (lv []) c p [] :: fs) s' := fun n s₀ x s' hx => by
        refine seg_wrap ?_
        rw [(gl _).over]
        refine wpAny_bind (wpAny_mono (hp x s' hx) (fun _ s'' hcb => wpAny_theTreesLotGoes ?_) fun y s'' hcb => ?_)
        · exact seg_leaf (.error x) (seg_cameBack gc k hcb)
        · exact seg_leaf (.error y) (seg_cameBack gc k hcb)
      refine segForLoop ?_
      rw [(gl _).over]
      rcases turn i m ys σ H w with ⟨stop, qn⟩ | ⟨go, N, hN, step⟩
      · refine wpAny_mono (T.done X rfl rfl rfl hcalm i _ s σ H X.xe I (stat fr) st stop) (fun r s4 ⟨hrn, I4⟩ => ?_) fun x s' hx => ee n s₀ x s' hx
        subst hrn
        refine seg_again rfl ?_
        exact seg_leaf (.ok .next) (k.ok n ys s₀ s4 .next hn ⟨σ, H, ⟨acc, cc, hr, I4⟩, qn⟩)
      · refine wpAny_mono (T.item X rfl rfl rfl hcalm i _ s σ H X.xe I (stat fr) st go) (fun r s4 ⟨u, hru, h4⟩ => ?_) fun x s' hx => ee n s₀ x s' hx
        subst hru
        refine wpAny_mono h4 (fun _ s5 ⟨x, H5, I5, r5, y5, st5, fr5⟩ => ?_) fun x s' hx => ee n s₀ x s' hx
        have I5' := I5.pinned (stat fr5) (T.obj _ _ st5)
        refine wpAny_mono (hg.run _ s5 σ H5 x u _ I5' r5 (step x H5 y5)) (fun _ s6 ⟨σ6, H6, I6, q6⟩ => ?_) fun x s' hx => ee n s₀ x s' hx
        have gB : GC X S (ip ++ pinsAt fp s5.heap) A (.forLoop tg (.ref it) body [] X.env) (.ret (fun r => ((match r with | .ok f => (.pure f : Sem Flow) | .error e => .raise e).onRaise (cameBack X.env)).wrap K J gd lv) none (gd false) (lv []) c p [] :: fs) id :=
          ⟨gc.pn, fun q hq => by
              rcases List.mem_append.mp hq with hq | hq
              · exact gc.ip q hq
              · obtain ⟨hb', _⟩ := of_pinsAt hq
                obtain ⟨_, _, _, _, _, f7⟩ := f2 q.1 hb'
                exact (f7 (S, lstObj acc0 cc0) (List.mem_append_right _ List.mem_cons_self)).symm, gc.apart, (gl _).over, (gl _).split, (gl _).guard, rfl⟩
        have again : ∀ (n' : Nat) (ys' : List V) (s₀' s7 : Shared) (σ7 : L2.St) (H7 : Hp), n' + ys'.length = sizeLine → GI X S (ip ++ pinsAt fp s5.heap) ys' σ7 H7 s7 → N ys' σ7 H7 → Seg (model X.prog X.w) A R (GY X S) n' s₀' (.forLoop tg (.ref it) body [] X.env) (.pure (.again (.forLoop tg (.ref it) body [] X.env)))
            (.ret (fun r => ((match r with | .ok f => (.pure f : Sem Flow) | .error e => .raise e).onRaise (cameBack X.env)).wrap K J gd lv) none (gd false) (lv []) c p [] :: fs) s7 := fun n' ys' s₀' s7 σ7 H7 hn' ⟨acc', cc', hr', I7⟩ n7 => by
          obtain ⟨m', hm, w7⟩ := hN ys' σ7 H7 n7
          have pin : ∀ b o, b ∈ fp → s5.heap.get? b = some o → s7.heap.get? b = some o ∧ H7 b = none := fun b o hb e => by
            obtain ⟨q1, q2, _⟩ := I7.pin (b, o) (List.mem_append_right _ (List.mem_cons_of_mem _ (List.mem_append_right _ (mem_pinsAt hb e))))
            exact ⟨q1, q2⟩
          have I7' : Inv X ((S, lstObj acc' cc') :: ip) σ7 H7 s7 := Inv.unpinned (pins := (S, lstObj acc' cc') :: ip) (pl := pinsAt fp s5.heap) I7
          refine seg_again rfl (ih m' hm (i + 1) n' ys' s₀' s7 σ7 H7 acc' cc' hn' w7 hr' I7' (T.keep _ _ _ st5 fun b hb o e => (pin b o hb e).1) fun b hb => ?_)
          obtain ⟨o, e, _⟩ := T.obj _ _ st5 b hb
          exact (pin b o hb e).2
        refine hb.run A S (ip ++ pinsAt fp s5.heap) R n ys s₀ _ _ _ _ id id s6 σ6 H6 { D with nx := N, ct := N, bk := D.nx } gB hn ⟨fun n' ys' s₀' s7 f hn' hs7 => ?_, fun n' s₀' x s7 hx => ee n' s₀' x s7 hx⟩ ⟨acc, cc, hr, I6⟩ q6
        cases f with
        | next =>
          obtain ⟨σ7, H7, I7, n7⟩ := hs7
          exact again n' ys' s₀' s7 σ7 H7 hn' I7 n7
        | cont =>
          obtain ⟨σ7, H7, I7, n7⟩ := hs7
          exact again n' ys' s₀' s7 σ7 H7 hn' I7 n7
        | brk =>
          obtain ⟨σ7, H7, ⟨acc', cc', hr', I7⟩, q7⟩ := hs7
          exact seg_leaf (.ok .next) (k.ok n' ys' s₀' s7 .next hn' ⟨σ7, H7, ⟨acc', cc', hr', Inv.unpinned (pins := (S, lstObj acc' cc') :: ip) (pl := pinsAt fp s5.heap) I7⟩, q7⟩)
        | ret v =>
          obtain ⟨x7, σ7, H7, ⟨acc', cc', hr', I7⟩, r7, q7⟩ := hs7
          exact seg_leaf (.ok (.ret v)) (k.ok n' ys' s₀' s7 (.ret v) hn' ⟨x7, σ7, H7, ⟨acc', cc', hr', Inv.unpinned (pins := (S, lstObj acc' cc') :: ip) (pl := pinsAt fp s5.heap) I7⟩, r7, q7⟩)
  exact loop m0 0 n ys s₀ s2 σ H2 acc0 cc0 hn w0 r0 I2 st2 fun b hb => (f2 b hb).1
end
section
variable {g : TG} {tb : TGn} {D : GEnds} {ys : List V} {σ : L2.St} {H : Hp}
/-- over numbers that follow one another -/
theorem gforRange {lo : Int} {n : Nat} (Pv : Nat → List V → L2.St → Hp → Prop) (h0 : Pv 0 ys σ H)
    (step : ∀ i ys σ H, i < n → Pv i ys σ H → g (.int (lo + i)) σ H fun σ2 H2 => tb { D with nx := Pv (i + 1), ct := Pv (i + 1), bk := D.nx } ys σ2 H2) (last : ∀ ys σ H, Pv n ys σ H → D.nx ys σ H) :
    ∃ W : Nat → Nat → List V → L2.St → Hp → Prop, (∃ m, W 0 m ys σ H) ∧ ∀ i m ys σ H, W i m ys σ H → ((Itr lo n).stop i H ∧ D.nx ys σ H) ∨ ((Itr lo n).go i H ∧
      ∃ N : List V → L2.St → Hp → Prop, (∀ ys' σ' H', N ys' σ' H' → ∃ m', m' < m ∧ W (i + 1) m' ys' σ' H') ∧ ∀ x H', (Itr lo n).yld i H x H' → g x σ H' fun σ2 H2 => tb { D with nx := N, ct := N, bk := D.nx } ys σ2 H2) := by
  refine ⟨fun i m ys σ H => m = n - i ∧ i ≤ n ∧ Pv i ys σ H, ⟨n, (Nat.sub_zero n).symm, Nat.zero_le n, h0⟩, fun i m ys σ H ⟨hm, hi, p⟩ => ?_⟩
  rcases Nat.lt_or_ge i n with h | h
  · refine .inr ⟨h, Pv (i + 1), fun ys' σ' H' q => ⟨n - (i + 1), by omega, rfl, h, q⟩, fun x H' ⟨e1, e2⟩ => ?_⟩
    rw [e1, e2]
    exact step i ys σ H h p
  · have e : i = n := Nat.le_antisymm hi h
    rw [e] at p
    exact .inl ⟨h, last ys σ H p⟩
/-- over enumerate of a list that the body leaves -/
theorem gforEnum {K : PySem.W.Frag} {a : Addr} {xs : List V} (Pv : Nat → List V → L2.St → Hp → Prop) (h0 : Pv 0 ys σ H) (hl : ∀ i ys σ H, Pv i ys σ H → SqL K H a xs)
    (step : ∀ i x ys σ H T, xs[i]? = some x → Pv i ys σ H → H T = none → g (.ref T) σ (upd H T (.tup [.int (i : Nat), x])) fun σ2 H2 => tb { D with nx := Pv (i + 1), ct := Pv (i + 1), bk := D.nx } ys σ2 H2)
    (last : ∀ ys σ H, Pv xs.length ys σ H → D.nx ys σ H) :
    ∃ W : Nat → Nat → List V → L2.St → Hp → Prop, (∃ m, W 0 m ys σ H) ∧ ∀ i m ys σ H, W i m ys σ H → ((Ite K a).stop i H ∧ D.nx ys σ H) ∨ ((Ite K a).go i H ∧
      ∃ N : List V → L2.St → Hp → Prop, (∀ ys' σ' H', N ys' σ' H' → ∃ m', m' < m ∧ W (i + 1) m' ys' σ' H') ∧ ∀ x H', (Ite K a).yld i H x H' → g x σ H' fun σ2 H2 => tb { D with nx := N, ct := N, bk := D.nx } ys σ2 H2) := by
  refine ⟨fun i m ys σ H => m = xs.length - i ∧ i ≤ xs.length ∧ Pv i ys σ H, ⟨xs.length, (Nat.sub_zero _).symm, Nat.zero_le _, h0⟩, fun i m ys σ H ⟨hm, hi, p⟩ => ?_⟩
  have q := hl i ys σ H p
  rcases Nat.lt_or_ge i xs.length with h | h
  · refine .inr ⟨⟨xs, xs[i], q, List.getElem?_eq_getElem h⟩, Pv (i + 1), fun ys' σ' H' q => ⟨xs.length - (i + 1), by omega, rfl, h, q⟩, fun v H' ⟨T, x, e1, n1, e2, e3⟩ => ?_⟩
    rw [e1, e2]
    exact step i x ys σ H T (e3 xs q) p n1
  · have e : i = xs.length := Nat.le_antisymm hi h
    rw [e] at p
    exact .inl ⟨⟨xs, q, h⟩, last ys σ H p⟩
end
/-- a generator def, as its callers want it -/
structure CalG (P : Program) (w : World) (K : PySem.W.Frag) (mg : Str → Option Value) (base : Heap) (name : Str) (k : Nat) (f : Addr) (fd : FuncData) (ps : List Str) (sp : SpG) : Prop where
  ok : GFn P w K mg base k f fd ps sp
  mg' : mg name = some (.ref f)
  kp : PySem.W.keepIn K (.ref f) = true
  b : Binds K fd ps []
theorem passG {X : Cx} : Passes (CX X.prog X.w) X E0 := fun _ _ _ _ _ _ _ ⟨_, _, _, _, _, _, _, _, _, _, _, _, h⟩ => h.elim
theorem noStop0 {K : PySem.W.Frag} : NoStop K E0 := fun _ _ _ h => h.elim
theorem r_listG {tg : TGen} {σ : L2.St} {H : Hp} {Q : VK} (h : tg σ H fun out H2 => ∀ p, H2 p = none → Q (.ref p) (upd H2 p (.lst out))) : tListG tg σ H Q := h
theorem r_callG {sp : SpG} {dvs : List V} {E : XK} {t : TA} {σ : L2.St} {H : Hp} {cont : List V → Hp → Prop} (h : t σ H fun vs H1 => sp (vs ++ dvs) H1 cont E) : tCallG sp dvs E t σ H cont := h
theorem r_gthen {t u : TGn} {D : GEnds} {ys : List V} {σ : L2.St} {H : Hp} (h : t { D with nx := fun ys' σ' H' => u D ys' σ' H' } ys σ H) : tGThen t u D ys σ H := h
theorem r_gplain {t : TS} {D : GEnds} {ys : List V} {σ : L2.St} {H : Hp} (h : t (D.at ys) σ H) : tPlain t D ys σ H := h
theorem r_g0 {D : GEnds} {ys : List V} {σ : L2.St} {H : Hp} (h : D.nx ys σ H) : tG0 D ys σ H := h
theorem r_gyield {te : TE} {D : GEnds} {ys : List V} {σ : L2.St} {H : Hp} (hl : ys.length < sizeLine) (h : te σ H fun x H1 => D.nx (ys ++ [x]) σ H1) : tGYield te D ys σ H := ⟨hl, h⟩
theorem r_gfor {wi : TI} {g : TG} {tb : TGn} {D : GEnds} {ys : List V} {σ : L2.St} {H : Hp} (h : wi σ H fun J H1 => ∃ W : Nat → Nat → List V → L2.St → Hp → Prop, (∃ m, W 0 m ys σ H1) ∧ ∀ i m ys σ H, W i m ys σ H →
  (J.stop i H ∧ D.nx ys σ H) ∨ (J.go i H ∧ ∃ N : List V → L2.St → Hp → Prop, (∀ ys' σ' H', N ys' σ' H' → ∃ m', m' < m ∧ W (i + 1) m' ys' σ' H') ∧ ∀ x H', J.yld i H x H' → g x σ H' fun σ2 H2 => tb { D with nx := N, ct := N, bk := D.nx } ys σ2 H2)) : tGFor wi g tb D ys σ H := h
end Sw

set_option maxHeartbeats 4000000
/-! What wants a token that is out: x.replace('y', 'z') of a name, behind a first call with a number among its arguments. -/
namespace Sw
open PySem PySem.Spec PyProof.Rows L2
/-- as PA, and a token is out behind it -/
def PAk (X : Cx) (es : List Expr) (t : TA) : Prop := ∀ (pos : Pos) (pins : List (Addr × Obj)) (s : Shared) (σ : L2.St) (H : Hp) (Q : List V → Hp → Prop), L2.Inv X pins σ H s → t σ H Q →
  wpAny (model X.prog X.w) X.A (spliced (backTo pos (starEach es X.env))) (fun us s1 => 1 ≤ s1.toks ∧ AP X pins σ Q us s1) X.xe s
section
variable {X : Cx} {e : Expr} {es : List Expr} {te to ta tb : TE} {t : TA} {rest : List Stmt} {u : TS}
theorem pak_int {n : Int} {j : Nat} {pc : Pos} (he : PE X e te) (hs : starEach [e, .Constant (.int n) j pc] X.env = [(false, eval e X.env), (false, eval (.Constant (.int n) j pc) X.env)] := by rfl) :
    PAk X [e, .Constant (.int n) j pc] (tCons te (tCons (tC (.int n)) tNil)) := by
  intro pos pins s σ H Q I h
  rw [hs]
  show wpAny _ _ (spliced ((false, eval e X.env) :: backTo pos [(false, eval (.Constant (.int n) j pc) X.env)])) _ _ s
  refine Calls.spliced_cons (thn (he.run pins s σ H _ I h) fun v s1 ⟨x, H1, I1, r1, q1⟩ => ?_)
  show wpAny _ _ (spliced ((false, eval (.Constant (.int n) j pc) X.env) :: backTo pos [])) _ _ _
  refine Calls.spliced_cons (wpAny_Constant_int (Calls.spliced_nil ⟨by show 1 ≤ s1.toks + 1; omega, [x, .int n], H1, I1.tok _, .cons r1 (.cons ⟨_, rfl⟩ .nil), q1⟩))
theorem pkt_call {k : Nat} {f : Addr} {fd : FuncData} {ps : List Str} {sp : Sp} {CX : CXT} {x : Str} {p pos : Pos} {ds : List Value} {dvs : List V} {E : XK} (F : FnOk X.prog X.w X.K X.mg X.base CX k f fd ps sp) (hr : Room k X.A) (hg : Gl X x) (hm : X.mg x = some (.ref f)) (hk : PySem.W.keepIn X.K (.ref f) = true) (hb : Binds X.K fd ps ds) (hd : Vals dvs ds) (hx : Passes CX X E)
    (ha : PAk X (e :: es) t) (hdb : (x == ("__debug__" : Str)) = false := by decide) (he : starEach (e :: es) X.env = (false, eval e X.env) :: starEach es X.env := by rfl) (hpl : (backTo pos (starEach es X.env)).any (·.1) = false := by rfl) :
    PKt X (.Call (.Name x p) (e :: es) [] pos) (tCall sp dvs E t) := by
  intro pins s σ H Q I h
  refine wpAny_Call_Name_kw (ld_glob I hg hm ?_ hdb)
  refine PySem.W.callWith_K (h₀ := X.base) I.ok.mod.kin hk (thn (ha pos pins s σ H _ I h) fun us s1 ⟨ht, vs, H1, I1, r, q⟩ => ⟨I1.kIn, ?_⟩) he hpl
  exact wpAny_mono (wpAny_toks_of (n := 1) ht (run_fn F hr hb hd hx I1 r q)) (fun _ _ z => z) fun _ _ z => z.2
theorem pss_setk {i : Nat} {x : Str} {pos' pos : Pos} (hN : X.N.Nodup) (hi : X.N[i]? = some x) (hx : Loc X.env.scope x) (he : PKt X e te) (h2 : PSsT X rest u)
    (hs : swapsWith e (some (.Name x pos')) pos.line X.env = pure false := by rfl) (hf : X.fn x = true ∨ X.env.scope.names.lookup x = some .local := by first | exact .inl rfl | exact .inr rfl | assumption) :
    PSs X (.Assign [.Name x pos'] e pos :: rest) (tSeq (tAsg te (gName i)) u) := by
  refine ⟨fun pins s σ H D I h => ?_⟩
  refine wpAny_execs_cons (wpAny_Assign_Name (thn (he pins s σ H _ I h) fun v s1 ⟨ht, y, H1, I1, r1, q1⟩ => ?_) hs)
  refine wpAny_mono (wpAny_toks_of (n := 1) ht (store_ok (Q := fun _ s2 => Inv X pins (σ.set i (some y)) H1 s2) I1 hN hi hx r1 (fun s2 I2 => I2) hf)) (fun _ s2 q => ?_) fun _ _ z => z.2
  exact h2 pins s2 _ H1 D q.1 q.2 q1
theorem pst_set {i : Nat} {x : Str} {pos' pos : Pos} (hN : X.N.Nodup) (hi : X.N[i]? = some x) (hx : Loc X.env.scope x) (he : PET X e te)
    (hs : swapsWith e (some (.Name x pos')) pos.line X.env = pure false := by rfl) (hf : X.fn x = true ∨ X.env.scope.names.lookup x = some .local := by first | exact .inl rfl | exact .inr rfl | assumption) :
    PST X (.Assign [.Name x pos'] e pos) (tAsg te (gName i)) := by
  intro pins s σ H D h0 I h
  refine wpAny_Assign_Name (thn (he pins s σ H _ h0 I h) fun v s1 ⟨y, H1, I1, r1, q1⟩ => ?_) hs
  exact store_ok I1 hN hi hx r1 (fun s2 I2 => ⟨_, H1, I2, q1⟩) hf
theorem pet_call {k : Nat} {f : Addr} {fd : FuncData} {ps : List Str} {sp : Sp} {CX : CXT} {x : Str} {p pos : Pos} {ds : List Value} {dvs : List V} {E : XK} (F : FnOk X.prog X.w X.K X.mg X.base CX k f fd ps sp) (hr : Room k X.A) (hg : Gl X x) (hm : X.mg x = some (.ref f)) (hk : PySem.W.keepIn X.K (.ref f) = true) (hb : Binds X.K fd ps ds) (hd : Vals dvs ds) (hx : Passes CX X E)
    (ha : PAT X (e :: es) t) (hdb : (x == ("__debug__" : Str)) = false := by decide) (he : starEach (e :: es) X.env = (false, eval e X.env) :: starEach es X.env := by rfl) (hpl : (backTo pos (starEach es X.env)).any (·.1) = false := by rfl) :
    PET X (.Call (.Name x p) (e :: es) [] pos) (tCall sp dvs E t) := by
  intro pins s σ H Q h0 I h
  refine wpAny_Call_Name_kw (ld_glob I hg hm ?_ hdb)
  refine PySem.W.callWith_K (h₀ := X.base) I.ok.mod.kin hk (thn (ha pos pins s σ H _ h0 I h) fun us s1 ⟨vs, H1, I1, r, q⟩ => ⟨I1.kIn, ?_⟩) he hpl
  exact run_fn F hr hb hd hx I1 r q
theorem pet_ix {a b : Expr} {pos : Pos} {r : R2} (hr : IxR X r) (ha : PET X a ta) (hb : PE X b tb) (hs : PlainIx b) : PET X (.Subscript a b pos) (tOp r ta tb) := by
  intro pins s σ H Q h0 I h
  refine Subscript_ (thn (ha pins s σ H _ h0 I h) fun v s1 ⟨x, H1, I1, r1, q1⟩ => ?_)
  exact thn (hb.run pins s1 σ H1 _ I1 q1) fun u s2 ⟨y, H2, I2, r2, q2⟩ => hr a b pins s2 σ H2 x y v u Q I2 r1 r2 q2 (hs _ _)
theorem pet_words {o : Expr} {apos pos : Pos} (ho : PET X o to) (hbase : attributeBase o "split" X.env (eval o X.env) = eval o X.env := by rfl) (hline : (apos.endLine == pos.line) = true := by rfl) :
    PET X (.Call (.Attribute o "split" apos) [] [] pos) (tM0 (fun x xs H Q => ∃ a, x = .str a ∧ xs = [] ∧ a.length + 2 ≤ sizeLine ∧ rNewStrs (Txt.words a) H Q) to) := by
  intro pins s σ H Q h0 I h
  refine PySem.Call_method0 hbase hline (thn (ho pins s σ H _ h0 I h) fun v s1 ⟨x, H1, I1, r1, q1⟩ => ?_)
  obtain ⟨⟨a, rfl⟩, q1⟩ := q1
  obtain ⟨t, rfl⟩ := _root_.id r1
  exact ⟨"str", _, F.plainAttrs_str, F.slot_str_split, F.type_str_split, typeIs_str _ _ _, (fun _ e => nomatch e), Calls.callWith_builtin rfl (PySem.evalArgs_none (mt_words pins s1 σ H1 _ [] _ [] Q I1 r1 .nil q1))⟩
theorem PET.of' (h : PE X e te) : PET X e te := fun pins s σ H Q _ I q => h.run pins s σ H Q I q
end
end Sw

namespace Sw
open PySem L2
/-- a method, an __init__, as its callers want it -/
structure CalM (P : Program) (w : World) (K : PySem.W.Frag) (mg : Str → Option Value) (base : Heap) (k : Nat) (f : Addr) (fd : FuncData) (ps : List Str) (sp : Sp) : Prop where
  ok : FnOk P w K mg base CX0 k f fd ps sp
  b : Binds K fd ps []
/-- a written tuple -/
def TupK (K : PySem.W.Frag) (a : Addr) (xs : List V) : Prop := ∃ (o : Obj) (its : Array Value) (n : Nat), K.lookup a = some o ∧ o.cls = .type "tuple" ∧ o.dict = none ∧ o.data = .seq its n ∧ its.size ≤ sizeLine ∧ Vals xs its.toList
theorem TupK.sq {K : PySem.W.Frag} {H : Hp} {a : Addr} {xs : List V} (h : TupK K a xs) : SqT K H a xs := by
  obtain ⟨o, its, n, h1, h2, _, h3, h4, h5⟩ := h
  exact .inr ⟨o, its, n, h1, h2, h3, h4, h5⟩
theorem TupK.ty {K : PySem.W.Frag} {H : Hp} {a : Addr} {xs : List V} (h : TupK K a xs) : tyV K "tuple" (.ref a) H := by
  obtain ⟨o, its, n, h1, h2, h3, _⟩ := h
  exact .inr (.inl ⟨rfl, o, h1, h2, h3⟩)
theorem at_cps {row : Str} {pre post : List Nat} {c : Nat} (h : row.cps.toList = pre ++ c :: post) : atI row.cps.toList (pre.length : Int) = some c := by
  refine atI_nat ?_
  rw [h]
  simp
theorem len_cps (z : Str) : z.length = z.cps.toList.length := by simp [Str.length]
theorem szl {n : Nat} (h : n ≤ 100000) : n ≤ sizeLine := Nat.le_trans h (by decide)
end Sw

local macro_rules | `(tactic| walk_at "st") => `(tactic| with_reducible first
  | refine Sw.r_seq ?_ | refine Sw.r_asg ?_ | refine Sw.r_gname ?_ | refine Sw.r_drop ?_ | refine Sw.r_ret ?_ | refine Sw.r_retN ?_ | refine Sw.r_next ?_ | refine Sw.r_cont ?_ | refine Sw.r_break ?_ | refine Sw.r_ifS ?_
  | (refine Sw.r_var (by with_unfolding_all rfl) ?_) | refine Sw.r_c ?_ | refine Sw.r_op ?_ | refine Sw.r_un ?_ | refine Sw.r_I0 ?_ | refine Sw.r_U ?_
  | (refine Sw.r_eq (by with_unfolding_all rfl) ?_) | (refine Sw.r_ne (by with_unfolding_all rfl) ?_) | refine Sw.r_test ?_ | refine Sw.r_tB ?_ | refine Sw.r_bl' ?_ | refine Sw.r_not ?_ | refine Sw.r_notV ?_
  | refine Sw.r_ifE ?_ | refine Sw.r_cb ?_ | refine Sw.r_nil ?_ | refine Sw.r_cons ?_ | refine Sw.r_call ?_ | refine Sw.r_make ?_ | refine Sw.r_meth ?_
  | refine Sw.r_tup ?_ | refine Sw.r_lst ?_ | refine Sw.r_fld _ ?_ | refine Sw.r_bm ?_ | refine Sw.r_bm0 ?_ | (refine Sw.r_aug (by with_unfolding_all rfl) ?_) | refine Sw.r_ipI ?_ | refine Sw.r_sl ?_ | refine Sw.r_noPart ?_ | refine Sw.r_part ?_ | refine Sw.r_int' ?_ | refine Sw.r_str' ?_ | refine Sw.r_isN ?_
  | (refine Sw.r_len (by walk_at "sz") ?_) | (refine Sw.r_ixS (by walk_at "sz") (by walk_at "at") ?_)
  | refine Sw.r_iList ?_ | refine Sw.r_iTup ?_ | refine Sw.r_iRng1 ?_ | refine Sw.r_iRng2 ?_ | refine Sw.r_iEnum ?_ | refine Sw.r_iStr ?_ | refine Sw.r_sFld ?_ | refine Sw.r_tyS ?_ | (refine Sw.r_slS (by walk_at "sz") ?_) | refine Sw.r_tM0 ?_ | refine Sw.r_tM1 ?_ | refine Sw.r_isS ?_
  | refine Sw.r_gCons ?_ | refine Sw.r_gNil ?_ | refine Sw.r_par ?_ | refine Sw.r_two ?_ | refine Sw.r_dget ?_ | refine Sw.r_din ?_ | refine Sw.r_dnotin ?_ | refine Sw.r_dput ?_ | refine Sw.r_dnewK ?_ | refine Sw.r_dnewT ?_
  | refine Sw.r_chain ?_ | refine Sw.r_never ?_ | refine Sw.r_for ?_ | refine Sw.r_inC ?_ | refine Sw.r_tFmt ?_)
local macro_rules | `(tactic| walk_at "sz") => `(tactic| first | assumption | (refine Sw.szl ?_; assumption) | (refine Sw.szl ?_; omega) | (show _ ≤ L2.sizeLine; decide))
local macro_rules | `(tactic| walk_at "at") => `(tactic| first | assumption | exact Sw.at_cps (by assumption))
local macro_rules | `(tactic| walk_at "ni") => `(tactic| ((fail_if_success (with_reducible refine Sw.r_ifS ?_)); walk_at "st"))

namespace Sw
open PySem L2
def top (i : Nat) : Stmt := PySem.Challenge.pw_sweeprota_k36_whole_texts_of_one_plan.main.body.getD i (.Pass ⟨0, 0, 0, 0⟩)
abbrev s_Token_init : Stmt := inClass (top 15) 0
abbrev nm_Token_init : List Str := ["self", "kind", "text", "line", "column"]
abbrev ps_Token_init : List Str := ["self", "kind", "text", "line", "column"]
theorem sc_Token_init : FnScope nm_Token_init ps_Token_init (defScope s_Token_init) := ⟨rfl, rfl, rfl, by decide +kernel, rfl, by decide +kernel, by decide +kernel⟩
abbrev s_tokens_of : Stmt := top 16
abbrev nm_tokens_of : List Str := ["text", "tokens", "line", "row"]
abbrev ps_tokens_of : List Str := ["text"]
theorem sc_tokens_of : FnScope nm_tokens_of ps_tokens_of (defScope s_tokens_of) := ⟨rfl, rfl, rfl, by decide +kernel, rfl, by decide +kernel, by decide +kernel⟩
abbrev s_tokens_in : Stmt := top 17
abbrev nm_tokens_in : List Str := ["row", "line", "tokens", "start", "end", "word", "kind"]
abbrev ps_tokens_in : List Str := ["row", "line"]
theorem sc_tokens_in : FnScope nm_tokens_in ps_tokens_in (defScope s_tokens_in) := ⟨rfl, rfl, rfl, by decide +kernel, rfl, by decide +kernel, by decide +kernel⟩
abbrev s_token_end : Stmt := top 18
abbrev nm_token_end : List Str := ["row", "start", "characters"]
abbrev ps_token_end : List Str := ["row", "start"]
theorem sc_token_end : FnScope nm_token_end ps_token_end (defScope s_token_end) := ⟨rfl, rfl, rfl, by decide +kernel, rfl, by decide +kernel, by decide +kernel⟩
abbrev s_run_end : Stmt := top 19
abbrev nm_run_end : List Str := ["row", "start", "characters", "end"]
abbrev ps_run_end : List Str := ["row", "start", "characters"]
theorem sc_run_end : FnScope nm_run_end ps_run_end (defScope s_run_end) := ⟨rfl, rfl, rfl, by decide +kernel, rfl, by decide +kernel, by decide +kernel⟩
abbrev s_kind_of : Stmt := top 20
abbrev nm_kind_of : List Str := ["word"]
abbrev ps_kind_of : List Str := ["word"]
theorem sc_kind_of : FnScope nm_kind_of ps_kind_of (defScope s_kind_of) := ⟨rfl, rfl, rfl, by decide +kernel, rfl, by decide +kernel, by decide +kernel⟩
abbrev s_Statement_init : Stmt := inClass (top 22) 0
abbrev nm_Statement_init : List Str := ["self", "word", "parts"]
abbrev ps_Statement_init : List Str := ["self", "word", "parts"]
theorem sc_Statement_init : FnScope nm_Statement_init ps_Statement_init (defScope s_Statement_init) := ⟨rfl, rfl, rfl, by decide +kernel, rfl, by decide +kernel, by decide +kernel⟩
abbrev s_Reader_init : Stmt := inClass (top 23) 0
abbrev nm_Reader_init : List Str := ["self", "text"]
abbrev ps_Reader_init : List Str := ["self", "text"]
theorem sc_Reader_init : FnScope nm_Reader_init ps_Reader_init (defScope s_Reader_init) := ⟨rfl, rfl, rfl, by decide +kernel, rfl, by decide +kernel, by decide +kernel⟩
abbrev s_Reader_ended : Stmt := inClass (top 23) 1
abbrev nm_Reader_ended : List Str := ["self"]
abbrev ps_Reader_ended : List Str := ["self"]
theorem sc_Reader_ended : FnScope nm_Reader_ended ps_Reader_ended (defScope s_Reader_ended) := ⟨rfl, rfl, rfl, by decide +kernel, rfl, by decide +kernel, by decide +kernel⟩
abbrev s_Reader_sees : Stmt := inClass (top 23) 2
abbrev nm_Reader_sees : List Str := ["self", "kind"]
abbrev ps_Reader_sees : List Str := ["self", "kind"]
theorem sc_Reader_sees : FnScope nm_Reader_sees ps_Reader_sees (defScope s_Reader_sees) := ⟨rfl, rfl, rfl, by decide +kernel, rfl, by decide +kernel, by decide +kernel⟩
abbrev s_Reader_take : Stmt := inClass (top 23) 3
abbrev nm_Reader_take : List Str := ["self", "kinds", "token"]
abbrev ps_Reader_take : List Str := ["self", "kinds"]
theorem sc_Reader_take : FnScope nm_Reader_take ps_Reader_take (defScope s_Reader_take) := ⟨rfl, rfl, rfl, by decide +kernel, rfl, by decide +kernel, by decide +kernel⟩
abbrev s_parse : Stmt := top 24
abbrev nm_parse : List Str := ["text", "reader", "statements"]
abbrev ps_parse : List Str := ["text"]
theorem sc_parse : FnScope nm_parse ps_parse (defScope s_parse) := ⟨rfl, rfl, rfl, by decide +kernel, rfl, by decide +kernel, by decide +kernel⟩
abbrev s_read_corridor : Stmt := top 25
abbrev nm_read_corridor : List Str := ["reader", "word", "number"]
abbrev ps_read_corridor : List Str := ["reader"]
theorem sc_read_corridor : FnScope nm_read_corridor ps_read_corridor (defScope s_read_corridor) := ⟨rfl, rfl, rfl, by decide +kernel, rfl, by decide +kernel, by decide +kernel⟩
abbrev s_read_names : Stmt := top 26
abbrev nm_read_names : List Str := ["reader", "keyword", "word", "names"]
abbrev ps_read_names : List Str := ["reader", "keyword"]
theorem sc_read_names : FnScope nm_read_names ps_read_names (defScope s_read_names) := ⟨rfl, rfl, rfl, by decide +kernel, rfl, by decide +kernel, by decide +kernel⟩
abbrev s_read_statement : Stmt := top 28
abbrev nm_read_statement : List Str := ["reader"]
abbrev ps_read_statement : List Str := ["reader"]
theorem sc_read_statement : FnScope nm_read_statement ps_read_statement (defScope s_read_statement) := ⟨rfl, rfl, rfl, by decide +kernel, rfl, by decide +kernel, by decide +kernel⟩
abbrev s_read_robot : Stmt := top 29
abbrev nm_read_robot : List Str := ["reader", "word", "number", "side"]
abbrev ps_read_robot : List Str := ["reader"]
theorem sc_read_robot : FnScope nm_read_robot ps_read_robot (defScope s_read_robot) := ⟨rfl, rfl, rfl, by decide +kernel, rfl, by decide +kernel, by decide +kernel⟩
abbrev s_read_put : Stmt := top 30
abbrev nm_read_put : List Str := ["reader", "word", "name", "number"]
abbrev ps_read_put : List Str := ["reader"]
theorem sc_read_put : FnScope nm_read_put ps_read_put (defScope s_read_put) := ⟨rfl, rfl, rfl, by decide +kernel, rfl, by decide +kernel, by decide +kernel⟩
abbrev s_read_rule : Stmt := top 31
abbrev nm_read_rule : List Str := ["reader", "word", "mood", "sign", "new_sign", "move", "new_mood"]
abbrev ps_read_rule : List Str := ["reader"]
theorem sc_read_rule : FnScope nm_read_rule ps_read_rule (defScope s_read_rule) := ⟨rfl, rfl, rfl, by decide +kernel, rfl, by decide +kernel, by decide +kernel⟩
abbrev s_Plan_init : Stmt := inClass (top 39) 0
abbrev nm_Plan_init : List Str := ["self"]
abbrev ps_Plan_init : List Str := ["self"]
theorem sc_Plan_init : FnScope nm_Plan_init ps_Plan_init (defScope s_Plan_init) := ⟨rfl, rfl, rfl, by decide +kernel, rfl, by decide +kernel, by decide +kernel⟩
abbrev s_read_plan : Stmt := top 40
abbrev nm_read_plan : List Str := ["text"]
abbrev ps_read_plan : List Str := ["text"]
theorem sc_read_plan : FnScope nm_read_plan ps_read_plan (defScope s_read_plan) := ⟨rfl, rfl, rfl, by decide +kernel, rfl, by decide +kernel, by decide +kernel⟩
abbrev s_read_plans : Stmt := top 41
abbrev nm_read_plans : List Str := ["texts", "parsed", "text", "statements"]
abbrev ps_read_plans : List Str := ["texts"]
theorem sc_read_plans : FnScope nm_read_plans ps_read_plans (defScope s_read_plans) := ⟨rfl, rfl, rfl, by decide +kernel, rfl, by decide +kernel, by decide +kernel⟩
abbrev s_checked_plan : Stmt := top 42
abbrev nm_checked_plan : List Str := ["statements", "plan", "statement", "add"]
abbrev ps_checked_plan : List Str := ["statements"]
theorem sc_checked_plan : FnScope nm_checked_plan ps_checked_plan (defScope s_checked_plan) := ⟨rfl, rfl, rfl, by decide +kernel, rfl, by decide +kernel, by decide +kernel⟩
abbrev s_require : Stmt := top 43
abbrev nm_require : List Str := ["holds", "reason", "token"]
abbrev ps_require : List Str := ["holds", "reason", "token"]
theorem sc_require : FnScope nm_require ps_require (defScope s_require) := ⟨rfl, rfl, rfl, by decide +kernel, rfl, by decide +kernel, by decide +kernel⟩
abbrev s_add_corridor : Stmt := top 44
abbrev nm_add_corridor : List Str := ["plan", "statement", "number"]
abbrev ps_add_corridor : List Str := ["plan", "statement"]
theorem sc_add_corridor : FnScope nm_add_corridor ps_add_corridor (defScope s_add_corridor) := ⟨rfl, rfl, rfl, by decide +kernel, rfl, by decide +kernel, by decide +kernel⟩
abbrev s_add_signs : Stmt := top 45
abbrev nm_add_signs : List Str := ["plan", "statement"]
abbrev ps_add_signs : List Str := ["plan", "statement"]
theorem sc_add_signs : FnScope nm_add_signs ps_add_signs (defScope s_add_signs) := ⟨rfl, rfl, rfl, by decide +kernel, rfl, by decide +kernel, by decide +kernel⟩
abbrev s_add_moods : Stmt := top 46
abbrev nm_add_moods : List Str := ["plan", "statement"]
abbrev ps_add_moods : List Str := ["plan", "statement"]
theorem sc_add_moods : FnScope nm_add_moods ps_add_moods (defScope s_add_moods) := ⟨rfl, rfl, rfl, by decide +kernel, rfl, by decide +kernel, by decide +kernel⟩
abbrev s_add_names : Stmt := top 47
abbrev nm_add_names : List Str := ["names", "most", "reason", "tokens", "token"]
abbrev ps_add_names : List Str := ["names", "most", "reason", "tokens"]
theorem sc_add_names : FnScope nm_add_names ps_add_names (defScope s_add_names) := ⟨rfl, rfl, rfl, by decide +kernel, rfl, by decide +kernel, by decide +kernel⟩
abbrev s_add_robot : Stmt := top 48
abbrev nm_add_robot : List Str := ["plan", "statement", "number", "side"]
abbrev ps_add_robot : List Str := ["plan", "statement"]
theorem sc_add_robot : FnScope nm_add_robot ps_add_robot (defScope s_add_robot) := ⟨rfl, rfl, rfl, by decide +kernel, rfl, by decide +kernel, by decide +kernel⟩
abbrev s_add_put : Stmt := top 49
abbrev nm_add_put : List Str := ["plan", "statement", "name", "number", "sign", "tile"]
abbrev ps_add_put : List Str := ["plan", "statement"]
theorem sc_add_put : FnScope nm_add_put ps_add_put (defScope s_add_put) := ⟨rfl, rfl, rfl, by decide +kernel, rfl, by decide +kernel, by decide +kernel⟩
abbrev s_add_rule : Stmt := top 50
abbrev nm_add_rule : List Str := ["plan", "statement", "mood", "sign", "new_sign", "move", "new_mood", "pair", "sign_left"]
abbrev ps_add_rule : List Str := ["plan", "statement"]
theorem sc_add_rule : FnScope nm_add_rule ps_add_rule (defScope s_add_rule) := ⟨rfl, rfl, rfl, by decide +kernel, rfl, by decide +kernel, by decide +kernel⟩
abbrev s_tile_of : Stmt := top 51
abbrev nm_tile_of : List Str := ["plan", "token", "tile"]
abbrev ps_tile_of : List Str := ["plan", "token"]
theorem sc_tile_of : FnScope nm_tile_of ps_tile_of (defScope s_tile_of) := ⟨rfl, rfl, rfl, by decide +kernel, rfl, by decide +kernel, by decide +kernel⟩
abbrev s_number_of : Stmt := top 52
abbrev nm_number_of : List Str := ["names", "token"]
abbrev ps_number_of : List Str := ["names", "token"]
theorem sc_number_of : FnScope nm_number_of ps_number_of (defScope s_number_of) := ⟨rfl, rfl, rfl, by decide +kernel, rfl, by decide +kernel, by decide +kernel⟩
abbrev s_format_plan : Stmt := top 55
abbrev nm_format_plan : List Str := ["plan"]
abbrev ps_format_plan : List Str := ["plan"]
theorem sc_format_plan : FnScope nm_format_plan ps_format_plan (defScope s_format_plan) := ⟨rfl, rfl, rfl, by decide +kernel, rfl, by decide +kernel, by decide +kernel⟩
abbrev s_signs_of : Stmt := top 56
abbrev nm_signs_of : List Str := ["plan"]
abbrev ps_signs_of : List Str := ["plan"]
theorem sc_signs_of : FnScope nm_signs_of ps_signs_of (defScope s_signs_of) := ⟨rfl, rfl, rfl, by decide +kernel, rfl, by decide +kernel, by decide +kernel⟩
abbrev s_canonical_text : Stmt := top 57
abbrev nm_canonical_text : List Str := ["plan", "signs", "moods", "lines", "tile", "side", "mood", "sign"]
abbrev ps_canonical_text : List Str := ["plan"]
theorem sc_canonical_text : FnScope nm_canonical_text ps_canonical_text (defScope s_canonical_text) := ⟨rfl, rfl, rfl, by decide +kernel, rfl, by decide +kernel, by decide +kernel⟩
abbrev s_rule_line : Stmt := top 58
abbrev nm_rule_line : List Str := ["plan", "mood", "sign", "new_sign", "move", "new_mood", "seen", "done"]
abbrev ps_rule_line : List Str := ["plan", "mood", "sign"]
theorem sc_rule_line : FnScope nm_rule_line ps_rule_line (defScope s_rule_line) := ⟨rfl, rfl, rfl, by decide +kernel, rfl, by decide +kernel, by decide +kernel⟩
abbrev s_Run_init : Stmt := inClass (top 64) 0
abbrev nm_Run_init : List Str := ["self", "plan", "ticks", "situation", "tick", "words"]
abbrev ps_Run_init : List Str := ["self", "plan"]
theorem sc_Run_init : FnScope nm_Run_init ps_Run_init (defScope s_Run_init) := ⟨rfl, rfl, rfl, by decide +kernel, rfl, by decide +kernel, by decide +kernel⟩
abbrev s_Run_first_like : Stmt := inClass (top 64) 1
abbrev nm_Run_first_like : List Str := ["self", "tick"]
abbrev ps_Run_first_like : List Str := ["self", "tick"]
theorem sc_Run_first_like : FnScope nm_Run_first_like ps_Run_first_like (defScope s_Run_first_like) := ⟨rfl, rfl, rfl, by decide +kernel, rfl, by decide +kernel, by decide +kernel⟩
abbrev s_first_in_cycle : Stmt := top 65
abbrev nm_first_in_cycle : List Str := ["tick", "start", "length"]
abbrev ps_first_in_cycle : List Str := ["tick", "start", "length"]
theorem sc_first_in_cycle : FnScope nm_first_in_cycle ps_first_in_cycle (defScope s_first_in_cycle) := ⟨rfl, rfl, rfl, by decide +kernel, rfl, by decide +kernel, by decide +kernel⟩
abbrev s_first_situation : Stmt := top 66
abbrev nm_first_situation : List Str := ["plan", "signs", "robots", "tile", "side"]
abbrev ps_first_situation : List Str := ["plan"]
theorem sc_first_situation : FnScope nm_first_situation ps_first_situation (defScope s_first_situation) := ⟨rfl, rfl, rfl, by decide +kernel, rfl, by decide +kernel, by decide +kernel⟩
abbrev s_perform : Stmt := top 67
abbrev nm_perform : List Str := ["plan", "situation", "old_signs", "old_robots", "signs", "robots", "words", "robot", "word", "new_robot"]
abbrev ps_perform : List Str := ["plan", "situation"]
theorem sc_perform : FnScope nm_perform ps_perform (defScope s_perform) := ⟨rfl, rfl, rfl, by decide +kernel, rfl, by decide +kernel, by decide +kernel⟩
abbrev s_act : Stmt := top 68
abbrev nm_act : List Str := ["plan", "signs", "robot", "tile", "side", "mood", "rule", "new_sign", "move", "new_mood", "new_tile", "new_side"]
abbrev ps_act : List Str := ["plan", "signs", "robot"]
theorem sc_act : FnScope nm_act ps_act (defScope s_act) := ⟨rfl, rfl, rfl, by decide +kernel, rfl, by decide +kernel, by decide +kernel⟩
abbrev s_moved : Stmt := top 69
abbrev nm_moved : List Str := ["size", "tile", "side", "move", "heading", "ahead"]
abbrev ps_moved : List Str := ["size", "tile", "side", "move"]
theorem sc_moved : FnScope nm_moved ps_moved (defScope s_moved) := ⟨rfl, rfl, rfl, by decide +kernel, rfl, by decide +kernel, by decide +kernel⟩
abbrev s_robot_tuples : Stmt := top 70
abbrev nm_robot_tuples : List Str := ["plan", "robots", "tile", "side", "mood"]
abbrev ps_robot_tuples : List Str := ["plan", "robots"]
theorem sc_robot_tuples : FnScope nm_robot_tuples ps_robot_tuples (defScope s_robot_tuples) := ⟨rfl, rfl, rfl, by decide +kernel, rfl, by decide +kernel, by decide +kernel⟩
abbrev s_is_integer : Stmt := top 73
abbrev nm_is_integer : List Str := ["value"]
abbrev ps_is_integer : List Str := ["value"]
theorem sc_is_integer : FnScope nm_is_integer ps_is_integer (defScope s_is_integer) := ⟨rfl, rfl, rfl, by decide +kernel, rfl, by decide +kernel, by decide +kernel⟩
abbrev s_check_tick : Stmt := top 74
abbrev nm_check_tick : List Str := ["tick", "lowest", "highest"]
abbrev ps_check_tick : List Str := ["tick", "lowest", "highest"]
theorem sc_check_tick : FnScope nm_check_tick ps_check_tick (defScope s_check_tick) := ⟨rfl, rfl, rfl, by decide +kernel, rfl, by decide +kernel, by decide +kernel⟩
abbrev s_first_difference : Stmt := top 76
abbrev nm_first_difference : List Str := ["plan", "other", "one", "two", "run_one", "run_two", "end", "tick"]
abbrev ps_first_difference : List Str := ["plan", "other"]
theorem sc_first_difference : FnScope nm_first_difference ps_first_difference (defScope s_first_difference) := ⟨rfl, rfl, rfl, by decide +kernel, rfl, by decide +kernel, by decide +kernel⟩
abbrev s_signs_after : Stmt := top 77
abbrev nm_signs_after : List Str := ["run", "tick", "signs", "_"]
abbrev ps_signs_after : List Str := ["run", "tick"]
theorem sc_signs_after : FnScope nm_signs_after ps_signs_after (defScope s_signs_after) := ⟨rfl, rfl, rfl, by decide +kernel, rfl, by decide +kernel, by decide +kernel⟩
abbrev s_ByteReader_init : Stmt := inClass (top 81) 0
abbrev nm_ByteReader_init : List Str := ["self", "code"]
abbrev ps_ByteReader_init : List Str := ["self", "code"]
theorem sc_ByteReader_init : FnScope nm_ByteReader_init ps_ByteReader_init (defScope s_ByteReader_init) := ⟨rfl, rfl, rfl, by decide +kernel, rfl, by decide +kernel, by decide +kernel⟩
abbrev s_ByteReader_take : Stmt := inClass (top 81) 1
abbrev nm_ByteReader_take : List Str := ["self", "lowest", "highest", "byte"]
abbrev ps_ByteReader_take : List Str := ["self", "lowest", "highest"]
theorem sc_ByteReader_take : FnScope nm_ByteReader_take ps_ByteReader_take (defScope s_ByteReader_take) := ⟨rfl, rfl, rfl, by decide +kernel, rfl, by decide +kernel, by decide +kernel⟩
abbrev s_ByteReader_end : Stmt := inClass (top 81) 2
abbrev nm_ByteReader_end : List Str := ["self"]
abbrev ps_ByteReader_end : List Str := ["self"]
theorem sc_ByteReader_end : FnScope nm_ByteReader_end ps_ByteReader_end (defScope s_ByteReader_end) := ⟨rfl, rfl, rfl, by decide +kernel, rfl, by decide +kernel, by decide +kernel⟩
abbrev s_encode : Stmt := top 82
abbrev nm_encode : List Str := ["plan", "checked", "code", "tile", "side", "mood", "sign", "new_sign", "move", "new_mood"]
abbrev ps_encode : List Str := ["plan"]
theorem sc_encode : FnScope nm_encode ps_encode (defScope s_encode) := ⟨rfl, rfl, rfl, by decide +kernel, rfl, by decide +kernel, by decide +kernel⟩
abbrev s_names_code : Stmt := top 83
abbrev nm_names_code : List Str := ["names", "code", "name", "letter"]
abbrev ps_names_code : List Str := ["names"]
theorem sc_names_code : FnScope nm_names_code ps_names_code (defScope s_names_code) := ⟨rfl, rfl, rfl, by decide +kernel, rfl, by decide +kernel, by decide +kernel⟩
abbrev s_decode : Stmt := top 84
abbrev nm_decode : List Str := ["code", "reader", "plan", "_", "tile", "checksum"]
abbrev ps_decode : List Str := ["code"]
theorem sc_decode : FnScope nm_decode ps_decode (defScope s_decode) := ⟨rfl, rfl, rfl, by decide +kernel, rfl, by decide +kernel, by decide +kernel⟩
abbrev s_read_names_encoding : Stmt := top 85
abbrev nm_read_names_encoding : List Str := ["reader", "most", "names", "_", "place", "name"]
abbrev ps_read_names_encoding : List Str := ["reader", "most"]
theorem sc_read_names_encoding : FnScope nm_read_names_encoding ps_read_names_encoding (defScope s_read_names_encoding) := ⟨rfl, rfl, rfl, by decide +kernel, rfl, by decide +kernel, by decide +kernel⟩
abbrev s_read_name : Stmt := top 87
abbrev nm_read_name : List Str := ["reader", "length", "_"]
abbrev ps_read_name : List Str := ["reader"]
theorem sc_read_name : FnScope nm_read_name ps_read_name (defScope s_read_name) := ⟨rfl, rfl, rfl, by decide +kernel, rfl, by decide +kernel, by decide +kernel⟩
abbrev s_read_start : Stmt := top 88
abbrev nm_read_start : List Str := ["reader", "plan", "tile", "side"]
abbrev ps_read_start : List Str := ["reader", "plan"]
theorem sc_read_start : FnScope nm_read_start ps_read_start (defScope s_read_start) := ⟨rfl, rfl, rfl, by decide +kernel, rfl, by decide +kernel, by decide +kernel⟩
abbrev s_read_rules : Stmt := top 89
abbrev nm_read_rules : List Str := ["reader", "plan", "last_sign", "last_mood", "mood", "sign", "_", "earlier_mood", "earlier_sign", "lowest_mood", "lowest_sign", "new_sign", "move"]
abbrev ps_read_rules : List Str := ["reader", "plan"]
theorem sc_read_rules : FnScope nm_read_rules ps_read_rules (defScope s_read_rules) := ⟨rfl, rfl, rfl, by decide +kernel, rfl, by decide +kernel, by decide +kernel⟩
abbrev s_robots_in : Stmt := top 91
abbrev nm_robots_in : List Str := ["plan", "tick", "checked", "_", "robots"]
abbrev ps_robots_in : List Str := ["plan", "tick"]
theorem sc_robots_in : FnScope nm_robots_in ps_robots_in (defScope s_robots_in) := ⟨rfl, rfl, rfl, by decide +kernel, rfl, by decide +kernel, by decide +kernel⟩
abbrev s_situation_after : Stmt := top 92
abbrev nm_situation_after : List Str := ["checked", "tick", "run"]
abbrev ps_situation_after : List Str := ["checked", "tick"]
theorem sc_situation_after : FnScope nm_situation_after ps_situation_after (defScope s_situation_after) := ⟨rfl, rfl, rfl, by decide +kernel, rfl, by decide +kernel, by decide +kernel⟩
abbrev s_l_random : Stmt := top 94
abbrev nm_l_random : List Str := ["_law_script", "_law_salt", "_law_seed", "_law_cell"]
abbrev ps_l_random : List Str := ["_law_script", "_law_salt"]
theorem sc_l_random : FnScope nm_l_random ps_l_random (defScope s_l_random) := ⟨rfl, rfl, rfl, by decide +kernel, rfl, by decide +kernel, by decide +kernel⟩
abbrev s_l_below : Stmt := top 95
abbrev nm_l_below : List Str := ["_law_d", "_law_limit", "_law_result"]
abbrev ps_l_below : List Str := ["_law_d", "_law_limit"]
theorem sc_l_below : FnScope nm_l_below ps_l_below (defScope s_l_below) := ⟨rfl, rfl, rfl, by decide +kernel, rfl, by decide +kernel, by decide +kernel⟩
abbrev s_l_shuffled : Stmt := top 96
abbrev nm_l_shuffled : List Str := ["_law_d", "_law_items", "_law_pool", "_law_result"]
abbrev ps_l_shuffled : List Str := ["_law_d", "_law_items"]
theorem sc_l_shuffled : FnScope nm_l_shuffled ps_l_shuffled (defScope s_l_shuffled) := ⟨rfl, rfl, rfl, by decide +kernel, rfl, by decide +kernel, by decide +kernel⟩
abbrev s_l_plan : Stmt := top 97
abbrev nm_l_plan : List Str := ["_law_d", "_law_most", "_law_signs", "_law_moods", "_law_tiles", "_law_floor", "_law_robots", "_law_rules", "_law_k", "_law_mood", "_law_sign", "_law_move"]
abbrev ps_l_plan : List Str := ["_law_d", "_law_most"]
theorem sc_l_plan : FnScope nm_l_plan ps_l_plan (defScope s_l_plan) := ⟨rfl, rfl, rfl, by decide +kernel, rfl, by decide +kernel, by decide +kernel⟩
abbrev s_l_lines : Stmt := top 98
abbrev nm_l_lines : List Str := ["_law_plan_here", "_law_signs", "_law_moods", "_law_floor", "_law_robots", "_law_rules", "_law_lines_here", "_law_tile", "_law_is_right", "_law_mood", "_law_sign", "_law_left", "_law_move", "_law_later", "_law_words"]
abbrev ps_l_lines : List Str := ["_law_plan_here"]
theorem sc_l_lines : FnScope nm_l_lines ps_l_lines (defScope s_l_lines) := ⟨rfl, rfl, rfl, by decide +kernel, rfl, by decide +kernel, by decide +kernel⟩
abbrev s_l_text : Stmt := top 99
abbrev nm_l_text : List Str := ["_law_plan_here"]
abbrev ps_l_text : List Str := ["_law_plan_here"]
theorem sc_l_text : FnScope nm_l_text ps_l_text (defScope s_l_text) := ⟨rfl, rfl, rfl, by decide +kernel, rfl, by decide +kernel, by decide +kernel⟩
abbrev s_l_placed : Stmt := top 100
abbrev nm_l_placed : List Str := ["_law_d", "_law_tokens", "_law_places", "_law_text_here", "_law_line", "_law_column", "_law_token", "_law_gap"]
abbrev ps_l_placed : List Str := ["_law_d", "_law_tokens"]
theorem sc_l_placed : FnScope nm_l_placed ps_l_placed (defScope s_l_placed) := ⟨rfl, rfl, rfl, by decide +kernel, rfl, by decide +kernel, by decide +kernel⟩
abbrev s_l_short : Stmt := top 101
abbrev nm_l_short : List Str := ["_law_d", "_law_most", "_law_signs", "_law_moods", "_law_floor", "_law_robots", "_law_rules", "_law_kept", "_law_mood", "_law_sign", "_law_left", "_law_move", "_law_later"]
abbrev ps_l_short : List Str := ["_law_d", "_law_most"]
theorem sc_l_short : FnScope nm_l_short ps_l_short (defScope s_l_short) := ⟨rfl, rfl, rfl, by decide +kernel, rfl, by decide +kernel, by decide +kernel⟩
abbrev s_law : Stmt := top 102
abbrev nm_law : List Str := ["_law_script", "_law_d", "_law_plan_here", "_law_text_here", "_law_lines_here", "_law_spread", "_law_bare", "_law_more", "_law_others", "_law_robots", "_law_loose", "_law_other", "_law_second", "_law_small", "_law_texts", "_law_code", "_law_k", "_law_tile", "_law_line"]
abbrev ps_law : List Str := ["_law_script"]
theorem sc_law : FnScope nm_law ps_law (defScope s_law) := ⟨rfl, rfl, rfl, by decide +kernel, rfl, by decide +kernel, by decide +kernel⟩
/-- where things of the text stand -/
structure Adr where
  cToken : Addr
  cStatement : Addr
  cReader : Addr
  cPlan : Addr
  cRun : Addr
  cByteReader : Addr
  tLETTERS : Tok
  tDIGITS : Tok
  aKEYWORDS : Addr
  tLONGEST_WORD : Tok
  tLONGEST_NUMBER : Tok
  tMOST_TILES : Tok
  tMOST_SIGNS : Tok
  tMOST_MOODS : Tok
  tMOST_ROBOTS : Tok
  aSIDES : Addr
  aMOVES : Addr
  aADDERS : Addr
  fADDERS_corridor : Addr
  fADDERS_signs : Addr
  fADDERS_moods : Addr
  fADDERS_robot : Addr
  fADDERS_put : Addr
  fADDERS_when : Addr
  tLEFT : Tok
  tBACK : Tok
  tSTAY : Tok
  tLAST_REPEAT : Tok
  tLAST_TICK : Tok
  tMARK : Tok
  tBYTES : Tok
/-- what the walk asks of the text -/
structure Txt (w : World) (K : PySem.W.Frag) (mg : Str → Option Value) (a : Adr) : Prop where
  c_Token : mg "Token" = some (.ref a.cToken)
  cl_Token : Cls K a.cToken
  n_Token_kind : NoAttr K a.cToken "kind"
  n_Token_text : NoAttr K a.cToken "text"
  n_Token_line : NoAttr K a.cToken "line"
  n_Token_column : NoAttr K a.cToken "column"
  c_Statement : mg "Statement" = some (.ref a.cStatement)
  cl_Statement : Cls K a.cStatement
  n_Statement_word : NoAttr K a.cStatement "word"
  n_Statement_parts : NoAttr K a.cStatement "parts"
  c_Reader : mg "Reader" = some (.ref a.cReader)
  cl_Reader : Cls K a.cReader
  n_Reader_tokens : NoAttr K a.cReader "tokens"
  n_Reader_lines : NoAttr K a.cReader "lines"
  n_Reader_at : NoAttr K a.cReader "at"
  c_Plan : mg "Plan" = some (.ref a.cPlan)
  cl_Plan : Cls K a.cPlan
  n_Plan_size : NoAttr K a.cPlan "size"
  n_Plan_signs : NoAttr K a.cPlan "signs"
  n_Plan_moods : NoAttr K a.cPlan "moods"
  n_Plan_robots : NoAttr K a.cPlan "robots"
  n_Plan_puts : NoAttr K a.cPlan "puts"
  n_Plan_rules : NoAttr K a.cPlan "rules"
  c_Run : mg "Run" = some (.ref a.cRun)
  cl_Run : Cls K a.cRun
  n_Run_situations : NoAttr K a.cRun "situations"
  n_Run_words : NoAttr K a.cRun "words"
  n_Run_start : NoAttr K a.cRun "start"
  n_Run_length : NoAttr K a.cRun "length"
  c_ByteReader : mg "ByteReader" = some (.ref a.cByteReader)
  cl_ByteReader : Cls K a.cByteReader
  n_ByteReader_code : NoAttr K a.cByteReader "code"
  n_ByteReader_place : NoAttr K a.cByteReader "place"
  g_LETTERS : mg "LETTERS" = some (.str "abcdefghijklmnopqrstuvwxyz" a.tLETTERS)
  g_DIGITS : mg "DIGITS" = some (.str "0123456789" a.tDIGITS)
  g_KEYWORDS : mg "KEYWORDS" = some (.ref a.aKEYWORDS)
  t_KEYWORDS : TupK K a.aKEYWORDS [.str "corridor", .str "signs", .str "moods", .str "robot", .str "put", .str "when", .str "leave", .str "left", .str "right", .str "on", .str "back", .str "stay"]
  g_LONGEST_WORD : mg "LONGEST_WORD" = some (.int 8 a.tLONGEST_WORD)
  g_LONGEST_NUMBER : mg "LONGEST_NUMBER" = some (.int 2 a.tLONGEST_NUMBER)
  g_MOST_TILES : mg "MOST_TILES" = some (.int 16 a.tMOST_TILES)
  g_MOST_SIGNS : mg "MOST_SIGNS" = some (.int 4 a.tMOST_SIGNS)
  g_MOST_MOODS : mg "MOST_MOODS" = some (.int 6 a.tMOST_MOODS)
  g_MOST_ROBOTS : mg "MOST_ROBOTS" = some (.int 3 a.tMOST_ROBOTS)
  g_SIDES : mg "SIDES" = some (.ref a.aSIDES)
  t_SIDES : TupK K a.aSIDES [.str "left", .str "right"]
  g_MOVES : mg "MOVES" = some (.ref a.aMOVES)
  t_MOVES : TupK K a.aMOVES [.str "on", .str "back", .str "stay"]
  g_ADDERS : mg "ADDERS" = some (.ref a.aADDERS)
  d_ADDERS_corridor : KDct K w a.aADDERS "corridor" (.ref a.fADDERS_corridor)
  d_ADDERS_signs : KDct K w a.aADDERS "signs" (.ref a.fADDERS_signs)
  d_ADDERS_moods : KDct K w a.aADDERS "moods" (.ref a.fADDERS_moods)
  d_ADDERS_robot : KDct K w a.aADDERS "robot" (.ref a.fADDERS_robot)
  d_ADDERS_put : KDct K w a.aADDERS "put" (.ref a.fADDERS_put)
  d_ADDERS_when : KDct K w a.aADDERS "when" (.ref a.fADDERS_when)
  g_LEFT : mg "LEFT" = some (.int 0 a.tLEFT)
  g_BACK : mg "BACK" = some (.int 1 a.tBACK)
  g_STAY : mg "STAY" = some (.int 2 a.tSTAY)
  g_LAST_REPEAT : mg "LAST_REPEAT" = some (.int 20000 a.tLAST_REPEAT)
  g_LAST_TICK : mg "LAST_TICK" = some (.int 1000000000000000000 a.tLAST_TICK)
  g_MARK : mg "MARK" = some (.int 82 a.tMARK)
  g_BYTES : mg "BYTES" = some (.int 256 a.tBYTES)
  n_ValueError : mg "ValueError" = none
  n_abs : mg "abs" = none
  n_bool : mg "bool" = none
  n_enumerate : mg "enumerate" = none
  n_int : mg "int" = none
  n_isinstance : mg "isinstance" = none
  n_len : mg "len" = none
  n_list : mg "list" = none
  n_max : mg "max" = none
  n_min : mg "min" = none
  n_range : mg "range" = none
  n_sorted : mg "sorted" = none
  n_str : mg "str" = none
  n_sum : mg "sum" = none
  n_super : mg "super" = none
  n_tuple : mg "tuple" = none
end Sw

/-! The mirror of the lexer: what it computes, over lists of code points. -/
namespace Sw
open PySem L2
def LET : Str := "abcdefghijklmnopqrstuvwxyz"
def DIG : Str := "0123456789"
def KWS : List Str := ["corridor", "signs", "moods", "robot", "put", "when", "leave", "left", "right", "on", "back", "stay"]
/-- a token: its kind, its text, its place -/
structure Tk where
  kind : Str
  text : Str
  line : Nat
  col : Nat
  deriving DecidableEq
def inS (z : Str) (c : Nat) : Bool := decide (c ∈ z.cps.toList)
/-- how long the run of such signs at the start of l is -/
def runLen (z : Str) : List Nat → Nat
  | [] => 0
  | c :: r => if inS z c then runLen z r + 1 else 0
/-- the length of the token that begins with c -/
def hd1 (z : Str) (l : List Nat) : Bool := l.head?.any (inS z)
def tokLen (l : List Nat) : Nat := if hd1 LET l then runLen LET l else if hd1 DIG l then runLen DIG l else 1
def kindOf (w : Str) : Option Str :=
  if w = ";" ∨ w ∈ KWS then some w
  else if hd1 LET w.cps.toList = true ∧ w.length ≤ 8 then some "name"
  else if hd1 DIG w.cps.toList = true ∧ w.length ≤ 2 then (if w = "0" ∨ w.cps.toList.head? ≠ some 48 then some "number" else none)
  else none
/-- the tokens of one row from a place on; none: an invalid one -/
def tokRow (line : Nat) : Nat → List Nat → Nat → Option (List Tk)
  | 0, _, _ => some []
  | _ + 1, [], _ => some []
  | n + 1, c :: r, col =>
    if c = 32 then tokRow line n r (col + 1)
    else
      let k := tokLen (c :: r)
      let w : Str := ⟨((c :: r).take k).toArray⟩
      match kindOf w with
      | none => none
      | some kd => (tokRow line n ((c :: r).drop k) (col + k)).map fun ts => ⟨kd, w, line, col⟩ :: ts
theorem runLen_le (z : Str) : ∀ l, runLen z l ≤ l.length
  | [] => Nat.le_refl _
  | c :: r => by
    unfold runLen
    split
    · exact Nat.succ_le_succ (runLen_le z r)
    · exact Nat.zero_le _
theorem runLen_pos {z : Str} {c : Nat} {r : List Nat} (h : inS z c = true) : 0 < runLen z (c :: r) := by
  unfold runLen
  rw [if_pos h]
  exact Nat.succ_pos _
theorem hd1_cons (z : Str) (c : Nat) (r : List Nat) : hd1 z (c :: r) = inS z c := rfl
theorem tokLen_pos (c : Nat) (r : List Nat) : 0 < tokLen (c :: r) := by
  unfold tokLen
  rw [hd1_cons, hd1_cons]
  by_cases h : inS LET c = true
  · rw [if_pos h]; exact runLen_pos h
  · rw [if_neg h]
    by_cases h : inS DIG c = true
    · rw [if_pos h]; exact runLen_pos h
    · rw [if_neg h]; exact Nat.one_pos
theorem tokLen_le (c : Nat) (r : List Nat) : tokLen (c :: r) ≤ (c :: r).length := by
  unfold tokLen
  by_cases h : hd1 LET (c :: r) = true
  · rw [if_pos h]; exact runLen_le _ _
  · rw [if_neg h]
    by_cases h : hd1 DIG (c :: r) = true
    · rw [if_pos h]; exact runLen_le _ _
    · rw [if_neg h]; exact Nat.succ_le_succ (Nat.zero_le _)
/-- more fuel does not matter -/
theorem tokRow_fuel (line : Nat) : ∀ (n m : Nat) (l : List Nat) (col : Nat), l.length ≤ n → l.length ≤ m → tokRow line n l col = tokRow line m l col
  | 0, 0, _, _, _, _ => rfl
  | 0, m + 1, [], _, _, _ => rfl
  | n + 1, 0, [], _, _, _ => rfl
  | 0, _, _ :: _, _, h, _ => absurd h (by simp)
  | _, 0, _ :: _, _, _, h => absurd h (by simp)
  | n + 1, m + 1, [], _, _, _ => rfl
  | n + 1, m + 1, c :: r, col, hn, hm => by
    have h1 : r.length ≤ n := Nat.le_of_succ_le_succ hn
    have h2 : r.length ≤ m := Nat.le_of_succ_le_succ hm
    unfold tokRow
    dsimp only
    rw [tokRow_fuel line n m r (col + 1) h1 h2]
    have hk := tokLen_pos c r
    have hd : ((c :: r).drop (tokLen (c :: r))).length ≤ r.length := by
      rw [List.length_drop, List.length_cons]
      omega
    rw [tokRow_fuel line n m _ _ (Nat.le_trans hd h1) (Nat.le_trans hd h2)]
def lexRow (line : Nat) (l : List Nat) (col : Nat) : Option (List Tk) := tokRow line l.length l col
theorem lexRow_nil (line col : Nat) : lexRow line [] col = some [] := rfl
theorem lexRow_space (line : Nat) (r : List Nat) (col : Nat) : lexRow line (32 :: r) col = lexRow line r (col + 1) := by
  show tokRow line (r.length + 1) (32 :: r) col = _
  unfold tokRow
  rw [if_pos rfl]
  rfl
theorem lexRow_tok (line : Nat) {c : Nat} (r : List Nat) (col : Nat) (h : c ≠ 32) : lexRow line (c :: r) col =
    match kindOf ⟨((c :: r).take (tokLen (c :: r))).toArray⟩ with
    | none => none
    | some kd => (lexRow line ((c :: r).drop (tokLen (c :: r))) (col + tokLen (c :: r))).map fun ts => ⟨kd, ⟨((c :: r).take (tokLen (c :: r))).toArray⟩, line, col⟩ :: ts := by
  show tokRow line (r.length + 1) (c :: r) col = _
  unfold tokRow
  dsimp only
  rw [if_neg h]
  have hk := tokLen_pos c r
  have hd : ((c :: r).drop (tokLen (c :: r))).length ≤ r.length := by
    rw [List.length_drop, List.length_cons]
    omega
  rw [tokRow_fuel line r.length _ _ _ hd (Nat.le_refl _)]
  rfl
/-- rows one after another -/
def lexRows : Nat → List (List Nat) → Option (List Tk)
  | _, [] => some []
  | k, r :: rs => match lexRow k r 0 with
    | none => none
    | some ts => (lexRows (k + 1) rs).map fun us => ts ++ us
theorem lexRows_at {rws : List (List Nat)} {i : Nat} {r : List Nat} {ts : List Tk} (h : lexRows i (rws.drop i) = some ts) (e : rws[i]? = some r) : ∃ us vs, lexRow i r 0 = some us ∧ lexRows (i + 1) (rws.drop (i + 1)) = some vs ∧ ts = us ++ vs := by
  obtain ⟨hi, e'⟩ := List.getElem?_eq_some_iff.mp e
  rw [List.drop_eq_getElem_cons hi, e'] at h
  unfold lexRows at h
  cases h1 : lexRow i r 0 with
  | none => rw [h1] at h; cases h
  | some us =>
    rw [h1] at h
    cases h2 : lexRows (i + 1) (rws.drop (i + 1)) with
    | none => simp only [h2] at h; cases h
    | some vs =>
      simp only [h2] at h
      exact ⟨us, vs, rfl, rfl, (Option.some.inj h).symm⟩
end Sw

/-! The mirror of the parser. -/
namespace Sw
open PySem L2
structure Stm where
  word : Tk
  parts : List Tk
  deriving DecidableEq
/-- the leading names -/
def namesOf : List Tk → List Tk
  | [] => []
  | t :: r => if t.kind = "name" then t :: namesOf r else []
def restOf : List Tk → List Tk
  | [] => []
  | t :: r => if t.kind = "name" then restOf r else t :: r
def pCorridor : List Tk → Option (Stm × List Tk)
  | w :: n :: e :: r => if w.kind = "corridor" ∧ n.kind = "number" ∧ e.kind = ";" then some (⟨w, [n]⟩, r) else none
  | _ => none
def pNames (kw : Str) : List Tk → Option (Stm × List Tk)
  | w :: n :: r => if w.kind = kw ∧ n.kind = "name" then (match restOf r with
    | e :: r' => if e.kind = ";" then some (⟨w, n :: namesOf r⟩, r') else none
    | [] => none) else none
  | _ => none
def pRobot : List Tk → Option (Stm × List Tk)
  | w :: n :: s :: e :: r => if w.kind = "robot" ∧ n.kind = "number" ∧ (s.kind = "left" ∨ s.kind = "right") ∧ e.kind = ";" then some (⟨w, [n, s]⟩, r) else none
  | _ => none
def pPut : List Tk → Option (Stm × List Tk)
  | w :: m :: n :: e :: r => if w.kind = "put" ∧ m.kind = "name" ∧ n.kind = "number" ∧ e.kind = ";" then some (⟨w, [m, n]⟩, r) else none
  | _ => none
def pRule : List Tk → Option (Stm × List Tk)
  | w :: m :: s :: l :: t :: v :: n :: e :: r => if w.kind = "when" ∧ m.kind = "name" ∧ s.kind = "name" ∧ l.kind = "leave" ∧ t.kind = "name" ∧ (v.kind = "on" ∨ v.kind = "back" ∨ v.kind = "stay") ∧ n.kind = "name" ∧ e.kind = ";" then
      some (⟨w, [m, s, t, v, n]⟩, r) else none
  | _ => none
def pStatement (ts : List Tk) : Option (Stm × List Tk) := match ts with
  | [] => none
  | t :: _ => if t.kind = "put" then pPut ts else if t.kind = "when" then pRule ts else pRobot ts
def pAll : Nat → List Tk → Option (List Stm)
  | _, [] => some []
  | 0, _ => none
  | n + 1, t :: ts => match pStatement (t :: ts) with
    | none => none
    | some (s, r) => (pAll n r).map fun ss => s :: ss
def parseM (ts : List Tk) : Option (List Stm) := match pCorridor ts with
  | none => none
  | some (c, r1) => match pNames "signs" r1 with
    | none => none
    | some (s, r2) => match pNames "moods" r2 with
      | none => none
      | some (m, r3) => match pRobot r3 with
        | none => none
        | some (b, r4) => (pAll r4.length r4).map fun ss => c :: s :: m :: b :: ss
theorem namesOf_pos {t : Tk} {r : List Tk} (h : t.kind = "name") : namesOf (t :: r) = t :: namesOf r := by rw [namesOf, if_pos h]
theorem namesOf_neg {t : Tk} {r : List Tk} (h : ¬ t.kind = "name") : namesOf (t :: r) = [] := by rw [namesOf, if_neg h]
theorem restOf_pos {t : Tk} {r : List Tk} (h : t.kind = "name") : restOf (t :: r) = restOf r := by rw [restOf, if_pos h]
theorem restOf_neg {t : Tk} {r : List Tk} (h : ¬ t.kind = "name") : restOf (t :: r) = t :: r := by rw [restOf, if_neg h]
theorem restOf_le : ∀ ts, (restOf ts).length ≤ ts.length
  | [] => Nat.le_refl _
  | t :: r => by
    unfold restOf
    split
    · exact Nat.le_succ_of_le (restOf_le r)
    · exact Nat.le_refl _
theorem pPut_len {ts r : List Tk} {s : Stm} (h : pPut ts = some (s, r)) : r.length < ts.length := by
  unfold pPut at h
  split at h
  · split at h
    · cases h; simp only [List.length_cons]; omega
    · cases h
  · cases h
theorem pRobot_len {ts r : List Tk} {s : Stm} (h : pRobot ts = some (s, r)) : r.length < ts.length := by
  unfold pRobot at h
  split at h
  · split at h
    · cases h; simp only [List.length_cons]; omega
    · cases h
  · cases h
theorem pRule_len {ts r : List Tk} {s : Stm} (h : pRule ts = some (s, r)) : r.length < ts.length := by
  unfold pRule at h
  split at h
  · split at h
    · cases h; simp only [List.length_cons]; omega
    · cases h
  · cases h
theorem pStatement_len {ts r : List Tk} {s : Stm} (h : pStatement ts = some (s, r)) : r.length < ts.length := by
  unfold pStatement at h
  split at h
  · cases h
  · split at h
    · exact pPut_len h
    · split at h
      · exact pRule_len h
      · exact pRobot_len h
end Sw

/-! The mirror of the checks: the data of a plan. -/
namespace Sw
open PySem L2
structure PlanD where
  size : Int
  signs : List Str
  moods : List Str
  robots : List (Int × Nat)
  puts : List (Int × Nat)
  rules : List ((Nat × Nat) × Nat × Nat × Nat)
def PlanD.empty : PlanD := ⟨0, [], [], [], [], []⟩
def addNamesM (most : Nat) : List Str → List Tk → Option (List Str)
  | ns, [] => some ns
  | ns, t :: r => if t.text ∈ ns then none else if ns.length < most then addNamesM most (ns ++ [t.text]) r else none
def tileM (pd : PlanD) (t : Tk) : Option Int := match PySem.intText? t.text with
  | some n => if n < pd.size then some n else none
  | none => none
def sideM (z : Str) : Option Nat := if z = "left" then some 0 else if z = "right" then some 1 else none
def moveM (z : Str) : Option Nat := if z = "on" then some 0 else if z = "back" then some 1 else if z = "stay" then some 2 else none
def idxM (ns : List Str) (t : Tk) : Option Nat := if t.text ∈ ns then some (ns.idxOf t.text) else none
def addM (pd : PlanD) (st : Stm) : Option PlanD :=
  if st.word.kind = "corridor" then (match st.parts with
    | n :: _ => (match PySem.intText? n.text with
      | some k => if 1 ≤ k ∧ k ≤ 16 then some { pd with size := k } else none
      | none => none)
    | [] => none)
  else if st.word.kind = "signs" then (match addNamesM 4 pd.signs st.parts with | some ns => some { pd with signs := ns } | none => none)
  else if st.word.kind = "moods" then (match addNamesM 6 pd.moods st.parts with | some ns => some { pd with moods := ns } | none => none)
  else if st.word.kind = "robot" then (match st.parts with
    | [n, s] => if pd.robots.length < 3 then (match tileM pd n, sideM s.text with
      | some t, some d => some { pd with robots := pd.robots ++ [(t, d)] }
      | _, _ => none) else none
    | _ => none)
  else if st.word.kind = "put" then (match st.parts with
    | [m, n] => (match idxM pd.signs m, tileM pd n with
      | some s, some t => if t ∈ pd.puts.map (·.1) then none else some { pd with puts := pd.puts ++ [(t, s)] }
      | _, _ => none)
    | _ => none)
  else if st.word.kind = "when" then (match st.parts with
    | [m, s, t, v, n] => (match idxM pd.moods m, idxM pd.signs s, idxM pd.signs t, moveM v.text, idxM pd.moods n with
      | some i, some j, some k, some d, some l => if (i, j) ∈ pd.rules.map (·.1) then none else some { pd with rules := pd.rules ++ [((i, j), k, d, l)] }
      | _, _, _, _, _ => none)
    | _ => none)
  else none
def addAll : PlanD → List Stm → Option PlanD
  | pd, [] => some pd
  | pd, s :: r => match addM pd s with
    | some pd' => addAll pd' r
    | none => none
theorem idxOf_pos {x y : Str} {r : List Str} (h : y = x) : (y :: r).idxOf x = 0 := by subst h; simp [List.idxOf_cons]
theorem idxOf_neg {x y : Str} {r : List Str} (h : ¬ y = x) : (y :: r).idxOf x = r.idxOf x + 1 := by
  have e : (y == x) = false := beq_eq_false_iff_ne.mpr h
  simp [List.idxOf_cons, e]
theorem idx_get : ∀ (l : List Str) (x : Str), x ∈ l → l[l.idxOf x]? = some x
  | [], _, h => by cases h
  | y :: r, x, h => by
    by_cases e : y = x
    · rw [idxOf_pos e, e]; rfl
    · rw [idxOf_neg e, List.getElem?_cons_succ]
      exact idx_get r x ((List.mem_cons.mp h).resolve_left fun q => e q.symm)
theorem idx_first : ∀ (l : List Str) (x y : Str) (m : Nat), m < l.idxOf x → l[m]? = some y → y ≠ x
  | [], _, _, _, _, h => by simp at h
  | z :: r, x, y, m, hm, h => by
    by_cases e : z = x
    · rw [idxOf_pos e] at hm; omega
    · rw [idxOf_neg e] at hm
      cases m with
      | zero => cases h; exact e
      | succ m => exact idx_first r x y m (by omega) h
end Sw

/-! The mirror of the canonical text. -/
namespace Sw
open PySem L2
def SIDESs : List Str := ["left", "right"]
def MOVESs : List Str := ["on", "back", "stay"]
def nS (n : Int) : Str := toString n
def lnCor (n : Int) : Str := ((Str.empty ++ "corridor ") ++ nS n) ++ ";"
def lnSigns (z : Str) : Str := ((Str.empty ++ "signs ") ++ z) ++ ";"
def lnMoods (z : Str) : Str := ((Str.empty ++ "moods ") ++ z) ++ ";"
def lnRob (t : Int) (s : Str) : Str := ((((Str.empty ++ "robot ") ++ nS t) ++ " ") ++ s) ++ ";"
def lnPut (s : Str) (t : Int) : Str := ((((Str.empty ++ "put ") ++ s) ++ " ") ++ nS t) ++ ";"
def lnSeen (m s : Str) : Str := ((((Str.empty ++ "when ") ++ m) ++ " ") ++ s)
def lnDone (t v n : Str) : Str := ((((((Str.empty ++ "leave ") ++ t) ++ " ") ++ v) ++ " ") ++ n)
def lnRule (m s t v n : Str) : Str := (((Str.empty ++ lnSeen m s) ++ " ") ++ lnDone t v n) ++ ";"
def putAt : List (Int × Nat) → Int → Option Nat
  | [], _ => none
  | x :: r, t => if x.1 = t then some x.2 else putAt r t
def ruleAt : List ((Nat × Nat) × Nat × Nat × Nat) → Nat × Nat → Option (Nat × Nat × Nat)
  | [], _ => none
  | x :: r, k => if x.1 = k then some x.2 else ruleAt r k
structure Small (pd : PlanD) : Prop where
  sz : 0 ≤ pd.size ∧ pd.size ≤ 16
  sg : ∀ s ∈ pd.signs, s.length ≤ 8
  sn : pd.signs.length ≤ 8
  md : ∀ s ∈ pd.moods, s.length ≤ 8
  mn : pd.moods.length ≤ 8
  rb : ∀ r ∈ pd.robots, 0 ≤ r.1 ∧ r.1 ≤ 16 ∧ r.2 < 2
  rn : pd.robots.length ≤ 3
  pt : ∀ x ∈ pd.puts, 0 ≤ x.1 ∧ x.1 ≤ 16 ∧ x.2 < pd.signs.length
  pn : pd.puts.length ≤ 16
  rl : ∀ x ∈ pd.rules, x.1.1 < pd.moods.length ∧ x.1.2 < pd.signs.length ∧ x.2.1 < pd.signs.length ∧ x.2.2.1 < 3 ∧ x.2.2.2 < pd.moods.length
  ru : pd.rules.length ≤ 63
def robL (r : Int × Nat) : Str := lnRob r.1 (SIDESs.getD r.2 Str.empty)
def putL (pd : PlanD) (t : Int) : List Str := match putAt pd.puts t with
  | some i => if i = 0 then [] else [lnPut (pd.signs.getD i Str.empty) t]
  | none => []
def ruleL (pd : PlanD) (k : Nat × Nat) : Str := match ruleAt pd.rules k with
  | some (i, d, l) => lnRule (pd.moods.getD k.1 Str.empty) (pd.signs.getD k.2 Str.empty) (pd.signs.getD i Str.empty) (MOVESs.getD d Str.empty) (pd.moods.getD l Str.empty)
  | none => Str.empty
def canonL (pd : PlanD) (ts : List Int) (rs : List (Nat × Nat)) : List Str :=
  [lnCor pd.size, lnSigns (Txt.join " " pd.signs), lnMoods (Txt.join " " pd.moods)] ++ pd.robots.map robL ++ ts.flatMap (putL pd) ++ rs.map (ruleL pd)
def canonT (pd : PlanD) (ts : List Int) (rs : List (Nat × Nat)) : Str := Txt.join "\n" (canonL pd ts rs)
/-- ascending, and all of them -/
def PutsOf (pd : PlanD) (ts : List Int) : Prop := ts.Perm (pd.puts.map (·.1)) ∧ ts.Pairwise (· ≤ ·)
def lexN (x y : Nat × Nat) : Prop := x.1 < y.1 ∨ (x.1 = y.1 ∧ x.2 ≤ y.2)
def RulesOf (pd : PlanD) (rs : List (Nat × Nat)) : Prop := rs.Perm (pd.rules.map (·.1)) ∧ rs.Pairwise lexN
theorem putAt_mem : ∀ {l : List (Int × Nat)} {t : Int}, t ∈ l.map (·.1) → ∃ i, putAt l t = some i ∧ (t, i) ∈ l
  | [], _, h => by cases h
  | x :: r, t, h => by
    unfold putAt
    by_cases e : x.1 = t
    · rw [if_pos e]
      refine ⟨x.2, rfl, ?_⟩
      rw [← e]; exact List.mem_cons_self ..
    · rw [if_neg e]
      rw [List.map_cons, List.mem_cons] at h
      obtain ⟨i, h1, h2⟩ := putAt_mem (h.resolve_left fun q => e q.symm)
      exact ⟨i, h1, List.mem_cons_of_mem _ h2⟩
theorem ruleAt_mem : ∀ {l : List ((Nat × Nat) × Nat × Nat × Nat)} {t : Nat × Nat}, t ∈ l.map (·.1) → ∃ i, ruleAt l t = some i ∧ (t, i) ∈ l
  | [], _, h => by cases h
  | x :: r, t, h => by
    unfold ruleAt
    by_cases e : x.1 = t
    · rw [if_pos e]
      refine ⟨x.2, rfl, ?_⟩
      rw [← e]; exact List.mem_cons_self ..
    · rw [if_neg e]
      rw [List.map_cons, List.mem_cons] at h
      obtain ⟨i, h1, h2⟩ := ruleAt_mem (h.resolve_left fun q => e q.symm)
      exact ⟨i, h1, List.mem_cons_of_mem _ h2⟩
theorem slen_app (x y : Str) : (x ++ y).length = x.length + y.length := by
  rw [TL.len_tl, TL.len_tl, TL.len_tl, TL.tl_append, List.length_append]
theorem slen_empty : Str.empty.length = 0 := rfl
theorem nS_small : ∀ n : Int, 0 ≤ n → n ≤ 16 → (nS n).length ≤ 2 := by
  intro n h1 h2
  obtain ⟨k, rfl⟩ : ∃ k : Nat, n = (k : Int) := ⟨n.toNat, by omega⟩
  have hk : k ≤ 16 := by omega
  have : ∀ k : Fin 17, (nS ((k.val : Nat) : Int)).length ≤ 2 := by decide +kernel
  exact this ⟨k, by omega⟩
theorem log_small {n : Int} (h1 : 0 ≤ n) (h2 : n ≤ 16) : n.natAbs.log2 < 1920 := by
  have : n.natAbs < 2 ^ 1920 := Nat.lt_of_le_of_lt (show n.natAbs ≤ 16 by omega) (by decide +kernel)
  by_cases h : n.natAbs = 0
  · rw [h]; decide
  · exact (Nat.log2_lt h).mpr this
end Sw

/-! The data of a drawn plan. -/
namespace Sw
open PySem L2
def SG5 : List Str := ["no", "red", "blue", "longname", "x"]
def MD7 : List Str := ["go", "calm", "red", "b", "cc", "mmmmmmmm", "z"]
structure LP where
  sg : List Str
  md : List Str
  fl : List Nat
  rb : List (Nat × Bool)
  ru : List ((Nat × Nat) × Nat × Nat × Nat)
def ltN (x y : Nat × Nat) : Prop := x.1 < y.1 ∨ (x.1 = y.1 ∧ x.2 < y.2)
structure GoodLP (most : Nat) (p : LP) : Prop where
  sg : ∀ s ∈ p.sg, s ∈ SG5
  sd : p.sg.Nodup
  s1 : 1 ≤ p.sg.length ∧ p.sg.length ≤ 4
  md : ∀ s ∈ p.md, s ∈ MD7
  dd : p.md.Nodup
  m1 : 1 ≤ p.md.length ∧ p.md.length ≤ 3
  fl : ∀ i ∈ p.fl, i < p.sg.length
  f1 : 1 ≤ p.fl.length ∧ p.fl.length ≤ most
  rb : ∀ r ∈ p.rb, r.1 < p.fl.length
  r1 : 1 ≤ p.rb.length ∧ p.rb.length ≤ 3
  ru : ∀ x ∈ p.ru, x.1.1 < p.md.length ∧ x.1.2 < p.sg.length ∧ x.2.1 < p.sg.length ∧ x.2.2.1 < 3 ∧ x.2.2.2 < p.md.length
  up : (p.ru.map (·.1)).Pairwise ltN
  ul : p.ru.length ≤ 12
structure LA where
  q : Addr
  sg : Addr
  md : Addr
  fl : Addr
  rb : Addr
  ru : Addr
def RbL (H : Hp) (q : Addr) (r : Nat × Bool) : Prop := H q = some (.tup [.int (r.1 : Int), .bl r.2])
def RuL (H : Hp) (kv : List Key × V) (r : (Nat × Nat) × Nat × Nat × Nat) : Prop := kv.1 = [Sum.inl (r.1.1 : Int), Sum.inl (r.1.2 : Int)] ∧ ∃ q, kv.2 = .ref q ∧ H q = some (.tup [.int (r.2.1 : Int), .str (MOVESs.getD r.2.2.1 Str.empty), .int (r.2.2.2 : Int)])
structure LPAt (H : Hp) (A : LA) (p : LP) : Prop where
  q : H A.q = some (.tup [.ref A.sg, .ref A.md, .ref A.fl, .ref A.rb, .ref A.ru])
  sg : H A.sg = some (.tup (p.sg.map V.str))
  md : H A.md = some (.tup (p.md.map V.str))
  fl : H A.fl = some (.tup (p.fl.map fun (i : Nat) => V.int (i : Int)))
  rb : ∃ qs, H A.rb = some (.tup (qs.map V.ref)) ∧ Paired (RbL H) qs p.rb
  ru : ∃ kvs, H A.ru = some (.dT kvs) ∧ Paired (RuL H) kvs p.ru
theorem LPAt.same {H H' : Hp} {A : LA} {p : LP} (h : LPAt H A p) (s : Same H H') : LPAt H' A p := by
  obtain ⟨qs, h1, h2⟩ := h.rb
  obtain ⟨kvs, h3, h4⟩ := h.ru
  exact ⟨s _ _ h.q, s _ _ h.sg, s _ _ h.md, s _ _ h.fl, ⟨qs, s _ _ h1, Paired.mapP h2 fun _ _ e => s _ _ e⟩, ⟨kvs, s _ _ h3, Paired.mapP h4 fun _ _ e => ⟨e.1, let ⟨q, e1, e2⟩ := e.2; ⟨q, e1, s _ _ e2⟩⟩⟩⟩
def MV5 : List Str := ["on", "on", "on", "back", "stay"]
theorem mv5 : ∀ r : Nat, r < 5 → ∃ d, d < 3 ∧ (MV5.map V.str)[r]? = some (.str (MOVESs.getD d Str.empty))
  | 0, _ => ⟨0, by decide, rfl⟩
  | 1, _ => ⟨0, by decide, rfl⟩
  | 2, _ => ⟨0, by decide, rfl⟩
  | 3, _ => ⟨1, by decide, rfl⟩
  | 4, _ => ⟨2, by decide, rfl⟩
  | n + 5, h => by omega
theorem rb4 : ∀ r : Nat, r < 4 → ∃ c : Nat, 1 ≤ c ∧ c ≤ 3 ∧ ([V.int 1, V.int 1, V.int 2, V.int 3] : List V)[r]? = some (.int (c : Int))
  | 0, _ => ⟨1, by decide, by decide, rfl⟩
  | 1, _ => ⟨1, by decide, by decide, rfl⟩
  | 2, _ => ⟨2, by decide, by decide, rfl⟩
  | 3, _ => ⟨3, by decide, by decide, rfl⟩
  | n + 4, h => by omega
theorem cutV_to (l : List V) (n : Nat) : cutV l none (some (n : Int)) = l.take n := by
  unfold cutV
  rw [HT.sIx_none, HT.sIx_nat, List.drop_zero, Nat.sub_zero]
  rcases Nat.le_total n l.length with h | h
  · rw [Nat.min_eq_left h]
  · rw [Nat.min_eq_right h, List.take_length, List.take_of_length_le h]
theorem ok5 : ∀ z ∈ SG5, PyData.strOk z = true := by decide +kernel
theorem ok7 : ∀ z ∈ MD7, PyData.strOk z = true := by decide +kernel
theorem nd5 : SG5.Nodup := by decide +kernel
theorem nd7 : MD7.Nodup := by decide +kernel
/-- some of a list's items in another order -/
theorem take_perm {n : Nat} {ys zs : List Str} (h : ys.Perm zs) (hd : zs.Nodup) (h1 : 1 ≤ n) (h2 : n ≤ zs.length) : (∀ s ∈ ys.take n, s ∈ zs) ∧ (ys.take n).Nodup ∧ (ys.take n).length = n := by
  refine ⟨fun s hs => h.mem_iff.mp (List.mem_of_mem_take hs), (List.take_sublist _ _).nodup (h.nodup_iff.mpr hd), ?_⟩
  rw [List.length_take, h.length_eq]
  omega
end Sw
namespace Sw
open PySem L2
def lwCor (n : Int) : Str := ("corridor " ++ nS n) ++ ";"
def lwSigns (z : Str) : Str := ("signs " ++ z) ++ ";"
def lwMoods (z : Str) : Str := ("moods " ++ z) ++ ";"
def lwRob (r : Nat × Bool) : Str := ("robot " ++ nS r.1) ++ (if r.2 then (" right;" : Str) else " left;")
def lwPutS (s : Str) (t : Nat) : Str := ((("put " ++ s) ++ " ") ++ nS t) ++ ";"
def lwPut (p : LP) (t : Nat) : List Str := if 0 < p.fl.getD t 0 then [lwPutS (p.sg.getD (p.fl.getD t 0) Str.empty) t] else []
def lwWords (p : LP) (x : (Nat × Nat) × Nat × Nat × Nat) : List Str :=
  ["when", p.md.getD x.1.1 Str.empty, p.sg.getD x.1.2 Str.empty, "leave", p.sg.getD x.2.1 Str.empty, MOVESs.getD x.2.2.1 Str.empty, p.md.getD x.2.2.2 Str.empty]
def lwRule (p : LP) (x : (Nat × Nat) × Nat × Nat × Nat) : Str := Txt.join " " (lwWords p x) ++ ";"
def lawL (p : LP) : List Str :=
  [lwCor (p.fl.length : Int), lwSigns (Txt.join " " p.sg), lwMoods (Txt.join " " p.md)] ++ p.rb.map lwRob ++ (List.range p.fl.length).flatMap (lwPut p) ++ p.ru.map (lwRule p)
theorem ltN_lex {l : List (Nat × Nat)} (h : l.Pairwise ltN) : l.Pairwise lexN := h.imp fun {x y} q => by unfold ltN at q; unfold lexN; omega
theorem ltN_nodup {l : List (Nat × Nat)} (h : l.Pairwise ltN) : l.Nodup := h.imp fun {x y} q e => by subst e; unfold ltN at q; omega
theorem lexN_uniq {l m : List (Nat × Nat)} (h : l.Pairwise lexN) (h2 : m.Pairwise lexN) (p : l.Perm m) : l = m :=
  List.Perm.eq_of_pairwise (fun a b _ _ h1 h2 => by
    obtain ⟨a1, a2⟩ := a
    obtain ⟨b1, b2⟩ := b
    unfold lexN at h1 h2
    dsimp only at h1 h2
    rw [Prod.mk.injEq]
    omega) h h2 p
theorem ruleAt_of : ∀ {l : List ((Nat × Nat) × Nat × Nat × Nat)} {x : (Nat × Nat) × Nat × Nat × Nat}, (l.map (·.1)).Nodup → x ∈ l → ruleAt l x.1 = some x.2
  | [], _, _, h => by cases h
  | y :: r, x, hn, h => by
    unfold ruleAt
    rcases List.mem_cons.mp h with e | h
    · rw [e, if_pos rfl]
    · rw [List.map_cons, List.nodup_cons] at hn
      rw [if_neg fun e => hn.1 (by rw [e]; exact List.mem_map.mpr ⟨x, h, rfl⟩)]
      exact ruleAt_of hn.2 h
theorem sg_len {most : Nat} {p : LP} (G : GoodLP most p) : ∀ s ∈ p.sg, s.length ≤ 8 := fun s hs => (show ∀ z ∈ SG5, z.length ≤ 8 by decide +kernel) s (G.sg s hs)
theorem md_len {most : Nat} {p : LP} (G : GoodLP most p) : ∀ s ∈ p.md, s.length ≤ 8 := fun s hs => (show ∀ z ∈ MD7, z.length ≤ 8 by decide +kernel) s (G.md s hs)
end Sw

/-! What the drawn texts say. -/
namespace Sw
open PySem L2
structure Like (p : LP) (pd : PlanD) : Prop where
  sz : pd.size = (p.fl.length : Int)
  sg : pd.signs = p.sg
  md : pd.moods = p.md
  rb : pd.robots = p.rb.map fun r => ((r.1 : Int), if r.2 then 1 else 0)
  p1 : ∀ x ∈ pd.puts, ∃ t : Nat, x.1 = (t : Int) ∧ t < p.fl.length ∧ x.2 = p.fl.getD t 0
  p2 : ∀ t : Nat, t < p.fl.length → 0 < p.fl.getD t 0 → ((t : Int), p.fl.getD t 0) ∈ pd.puts
  p3 : (pd.puts.map (·.1)).Nodup
  rl : pd.rules.Perm p.ru
def isRob (z : Str) : Bool := decide (cutS z none (some 6) = ("robot " : Str))
def robL' (p : LP) : List Str := (lawL p).filter isRob
def othL (p : LP) : List Str := ((lawL p).drop 3).filter fun z => !isRob z
def clrL (p : LP) : List Nat := ((List.range p.fl.length).filter fun k => decide (p.fl.getD k 0 = 0)).take 3
def zput (p : LP) (k : Nat) : Str := lwPutS (p.sg.getD 0 Str.empty) k
def looseSet (p : LP) : List Str := othL p ++ (clrL p).map (zput p) ++ List.replicate ((robL' p).length - 1) Str.empty
def fillM : List Str → List Str → List Str
  | [], l => l
  | r :: rs, l => fillM rs (l.set (l.idxOf Str.empty) r)
def LooseOK (p : LP) (L : List Str) : Prop := ∃ lo : List Str, lo.Perm (looseSet p) ∧ L = (lawL p).take 3 ++ (robL' p).take 1 ++ fillM ((robL' p).drop 1) lo
def SEP4 : List Str := [" ", "  ", "\n", "\n "]
inductive Spaced : List Str → Str → Prop
  | nil : Spaced [] ""
  | snoc {ws : List Str} {z s w : Str} (h : Spaced ws z) (hs : s ∈ SEP4) : Spaced (ws ++ [w]) ((z ++ s) ++ w)
theorem php : ∀ (n : Nat) (l : List Nat), l.Nodup → (∀ x ∈ l, x < n) → l.length ≤ n
  | 0, l, _, h => by
    cases l with
    | nil => exact Nat.le_refl _
    | cons x r => exact absurd (h x (List.mem_cons_self ..)) (Nat.not_lt_zero _)
  | n + 1, l, hd, h => by
    have h1 := php n (l.erase n) (hd.erase n) fun x hx => by
      have := h x (List.mem_of_mem_erase hx)
      have hne : x ≠ n := (List.Nodup.mem_erase_iff hd).mp hx |>.1
      omega
    have h2 := List.length_erase (a := n) (l := l)
    split at h2 <;> omega
theorem idx_empty : ∀ {l : List Str}, Str.empty ∈ l → l[l.idxOf Str.empty]? = some Str.empty := fun h => idx_get _ _ h
theorem fill_count (l : List Str) (r : Str) : l.count Str.empty ≤ (l.set (l.idxOf Str.empty) r).count Str.empty + 1 := by
  induction l with
  | nil => simp
  | cons x t ih =>
    by_cases e : x = Str.empty
    · rw [idxOf_pos e, List.set_cons_zero, List.count_cons, List.count_cons]
      split <;> split <;> omega
    · rw [idxOf_neg e, List.set_cons_succ, List.count_cons, List.count_cons]
      omega
theorem fill_len : ∀ (rs l : List Str), (fillM rs l).length = l.length
  | [], l => rfl
  | r :: rs, l => by unfold fillM; rw [fill_len rs, List.length_set]
theorem fill_all {P : Str → Prop} : ∀ (rs l : List Str), (∀ z ∈ rs, P z) → (∀ z ∈ l, P z) → ∀ z ∈ fillM rs l, P z
  | [], l, _, h => h
  | r :: rs, l, h1, h2 => by
    unfold fillM
    refine fill_all rs _ (fun z hz => h1 z (List.mem_cons_of_mem _ hz)) fun z hz => ?_
    rcases List.mem_or_eq_of_mem_set hz with q | q
    · exact h2 z q
    · rw [q]; exact h1 r (List.mem_cons_self ..)
theorem strOk_app {x y : Str} (h1 : PyData.strOk x = true) (h2 : PyData.strOk y = true) : PyData.strOk (x ++ y) = true := by
  unfold PyData.strOk at *
  rw [← Array.all_toList] at *
  rw [show (x ++ y).cps.toList = x.cps.toList ++ y.cps.toList from TL.tl_append x y, List.all_append, h1, h2]
  rfl
theorem nS_ok : ∀ n : Int, 0 ≤ n → n ≤ 16 → PyData.strOk (nS n) = true := by
  intro n h1 h2
  obtain ⟨k, rfl⟩ : ∃ k : Nat, n = (k : Int) := ⟨n.toNat, by omega⟩
  have : ∀ k : Fin 17, PyData.strOk (nS ((k.val : Nat) : Int)) = true := by decide +kernel
  exact this ⟨k, by omega⟩
end Sw

/-! Texts and their words. -/
namespace Sw
open PySem L2
abbrev tl (x : Str) : List Nat := x.cps.toList
def kd (w : Str) : Str := (kindOf w).getD Str.empty
def Stop (l : List Nat) : Prop := l = [] ∨ ∃ c r, l = c :: r ∧ (c = 32 ∨ c = 10 ∨ c = 59)
structure WOk (w : Str) : Prop where
  k : kindOf w = some (kd w)
  c : w = ";" ∨ (tl w ≠ [] ∧ ∀ c ∈ tl w, inS LET c = true) ∨ (tl w ≠ [] ∧ ∀ c ∈ tl w, inS DIG c = true)
inductive Tx : List Nat → List Str → Prop
  | nil : Tx [] []
  | sp {c : Nat} {l : List Nat} {ws : List Str} (h : c = 32 ∨ c = 10) (t : Tx l ws) : Tx (c :: l) ws
  | wd {w : Str} {l : List Nat} {ws : List Str} (h : WOk w) (s : w = ";" ∨ Stop l) (t : Tx l ws) : Tx (tl w ++ l) (w :: ws)
def rowsOf : List Nat → List Nat × List (List Nat)
  | [] => ([], [])
  | c :: r => if c = 10 then ([], (rowsOf r).1 :: (rowsOf r).2) else (c :: (rowsOf r).1, (rowsOf r).2)
theorem spl_rows : ∀ (l acc : List Nat), TL.spl [10] 0 acc l = (acc ++ (rowsOf l).1) :: (rowsOf l).2
  | [], acc => by rw [TL.spl_nil]; simp [rowsOf]
  | c :: r, acc => by
    by_cases h : c = 10
    · subst h
      rw [TL.spl_hit (by rfl), show ([10] : List Nat).length - 1 = 0 from rfl, spl_rows r []]
      simp [rowsOf]
    · rw [TL.spl_miss (by simp [TL.pre, h]), spl_rows r (acc ++ [c])]
      simp [rowsOf, h]
theorem rows_len : ∀ l : List Nat, (rowsOf l).1.length ≤ l.length ∧ ∀ r ∈ (rowsOf l).2, r.length ≤ l.length
  | [] => ⟨Nat.le_refl _, fun r h => by cases h⟩
  | c :: t => by
    obtain ⟨h1, h2⟩ := rows_len t
    unfold rowsOf
    by_cases h : c = 10
    · rw [if_pos h]
      refine ⟨Nat.zero_le _, fun r hr => ?_⟩
      rw [List.length_cons]
      rcases List.mem_cons.mp hr with e | hr
      · rw [e]; omega
      · have := h2 r hr; omega
    · rw [if_neg h]
      refine ⟨by simp; omega, fun r hr => ?_⟩
      have := h2 r hr
      rw [List.length_cons]; omega
theorem rows_app : ∀ (w l : List Nat), (∀ c ∈ w, c ≠ 10) → rowsOf (w ++ l) = (w ++ (rowsOf l).1, (rowsOf l).2)
  | [], l, _ => rfl
  | c :: r, l, h => by
    show (if c = 10 then ([], (rowsOf (r ++ l)).1 :: (rowsOf (r ++ l)).2) else (c :: (rowsOf (r ++ l)).1, (rowsOf (r ++ l)).2)) = _
    rw [if_neg (h c (List.mem_cons_self ..)), rows_app r l fun x hx => h x (List.mem_cons_of_mem _ hx)]
    rfl
theorem let_no : ∀ c, inS LET c = true → c ≠ 32 ∧ c ≠ 10 ∧ c ≠ 59 ∧ inS DIG c = false ∧ Unicode.isSpace c = false := by
  intro c h
  have hm : c ∈ LET.cps.toList := of_decide_eq_true h
  exact (show ∀ c ∈ LET.cps.toList, c ≠ 32 ∧ c ≠ 10 ∧ c ≠ 59 ∧ inS DIG c = false ∧ Unicode.isSpace c = false by decide +kernel) c hm
theorem dig_no : ∀ c, inS DIG c = true → c ≠ 32 ∧ c ≠ 10 ∧ c ≠ 59 ∧ inS LET c = false ∧ Unicode.isSpace c = false := by
  intro c h
  have hm : c ∈ DIG.cps.toList := of_decide_eq_true h
  exact (show ∀ c ∈ DIG.cps.toList, c ≠ 32 ∧ c ≠ 10 ∧ c ≠ 59 ∧ inS LET c = false ∧ Unicode.isSpace c = false by decide +kernel) c hm
theorem stop_no {l : List Nat} (h : Stop l) : hd1 LET l = false ∧ hd1 DIG l = false := by
  rcases h with rfl | ⟨c, r, rfl, h⟩
  · exact ⟨rfl, rfl⟩
  · rw [hd1_cons, hd1_cons]
    rcases h with rfl | rfl | rfl <;> exact ⟨by decide +kernel, by decide +kernel⟩
theorem run_all {z : Str} : ∀ (w l : List Nat), (∀ c ∈ w, inS z c = true) → hd1 z l = false → runLen z (w ++ l) = w.length
  | [], [], _, _ => rfl
  | [], c :: r, _, h => by
    rw [hd1_cons] at h
    show runLen z (c :: r) = 0
    unfold runLen
    rw [if_neg (by rw [h]; decide)]
  | c :: r, l, h, hl => by
    show runLen z (c :: (r ++ l)) = _
    unfold runLen
    rw [if_pos (h c (List.mem_cons_self ..)), run_all r l (fun x hx => h x (List.mem_cons_of_mem _ hx)) hl]
    rfl
theorem tl_semi : tl (";" : Str) = [59] := rfl
theorem stop_row {l : List Nat} (h : Stop l) : Stop (rowsOf l).1 := by
  rcases h with rfl | ⟨c, r, rfl, h⟩
  · exact .inl rfl
  · unfold rowsOf
    by_cases e : c = 10
    · rw [if_pos e]; exact .inl rfl
    · rw [if_neg e]; exact .inr ⟨c, _, rfl, h⟩
/-- one word at the head of a row -/
theorem lex_word {w : Str} {row : List Nat} (h : WOk w) (s : w = ";" ∨ Stop row) (line col : Nat) :
    lexRow line (tl w ++ row) col = (lexRow line row (col + (tl w).length)).map fun ts => ⟨kd w, w, line, col⟩ :: ts := by
  have key : ∃ c r, tl w = c :: r ∧ c ≠ 32 ∧ tokLen (tl w ++ row) = (tl w).length := by
    rcases h.c with rfl | ⟨hn, hc⟩ | ⟨hn, hc⟩
    · refine ⟨59, [], rfl, by decide, ?_⟩
      show tokLen (59 :: row) = 1
      unfold tokLen
      rw [hd1_cons, hd1_cons, if_neg (by decide +kernel), if_neg (by decide +kernel)]
    · have hs : Stop row := s.resolve_left fun e => by
        subst e
        have := hc 59 (by decide +kernel)
        exact absurd this (by decide +kernel)
      cases e : tl w with
      | nil => exact absurd e hn
      | cons c r =>
        rw [e] at hc
        have hc0 := hc c (List.mem_cons_self ..)
        refine ⟨c, r, rfl, (let_no c hc0).1, ?_⟩
        unfold tokLen
        rw [List.cons_append, hd1_cons, if_pos hc0]
        exact run_all (c :: r) row hc (stop_no hs).1
    · have hs : Stop row := s.resolve_left fun e => by
        subst e
        have := hc 59 (by decide +kernel)
        exact absurd this (by decide +kernel)
      cases e : tl w with
      | nil => exact absurd e hn
      | cons c r =>
        rw [e] at hc
        have hc0 := hc c (List.mem_cons_self ..)
        refine ⟨c, r, rfl, (dig_no c hc0).1, ?_⟩
        unfold tokLen
        rw [List.cons_append, hd1_cons, hd1_cons, if_neg (by rw [(dig_no c hc0).2.2.2.1]; decide), if_pos hc0]
        exact run_all (c :: r) row hc (stop_no hs).2
  obtain ⟨c, r, e, hc, ht⟩ := key
  have hw : (⟨(tl w).toArray⟩ : Str) = w := TL.ext_tl rfl
  rw [e, List.cons_append] at ht ⊢
  rw [lexRow_tok line (r ++ row) col hc, ht]
  rw [← List.cons_append, List.take_left, List.drop_left]
  rw [← e, hw, h.k]
def kt (t : Tk) : Str × Str := (t.kind, t.text)
def Mt (ts : List Tk) (ws : List Str) : Prop := ts.map kt = ws.map fun w => (kd w, w)
theorem lex_tx {l : List Nat} {ws : List Str} (h : Tx l ws) : ∀ line col, ∃ us vs, lexRow line (rowsOf l).1 col = some us ∧ lexRows (line + 1) (rowsOf l).2 = some vs ∧ Mt (us ++ vs) ws := by
  induction h with
  | nil => exact fun line col => ⟨[], [], lexRow_nil line col, rfl, rfl⟩
  | @sp c l ws h t ih =>
    intro line col
    unfold rowsOf
    rcases h with rfl | rfl
    · rw [if_neg (by decide)]
      obtain ⟨us, vs, h1, h2, h3⟩ := ih line (col + 1)
      exact ⟨us, vs, by rw [lexRow_space]; exact h1, h2, h3⟩
    · rw [if_pos rfl]
      obtain ⟨us, vs, h1, h2, h3⟩ := ih (line + 1) 0
      refine ⟨[], us ++ vs, lexRow_nil line col, ?_, h3⟩
      show lexRows (line + 1) ((rowsOf l).1 :: (rowsOf l).2) = _
      unfold lexRows
      rw [h1]
      dsimp only
      rw [h2]
      rfl
  | @wd w l ws h s t ih =>
    intro line col
    have h10 : ∀ c ∈ tl w, c ≠ 10 := by
      intro c hc
      rcases h.c with rfl | ⟨_, hc2⟩ | ⟨_, hc2⟩
      · rw [tl_semi, List.mem_singleton] at hc; omega
      · exact (let_no c (hc2 c hc)).2.1
      · exact (dig_no c (hc2 c hc)).2.1
    rw [rows_app _ _ h10]
    obtain ⟨us, vs, h1, h2, h3⟩ := ih line (col + (tl w).length)
    refine ⟨⟨kd w, w, line, col⟩ :: us, vs, ?_, h2, ?_⟩
    · dsimp only
      rw [lex_word h (s.imp id stop_row), h1]
      rfl
    · show Mt (⟨kd w, w, line, col⟩ :: (us ++ vs)) (w :: ws)
      unfold Mt at h3 ⊢
      rw [List.map_cons, List.map_cons, h3]
      rfl
/-! the words of a text, after ';' has been set apart -/
def rep (l : List Nat) : List Nat := l.flatMap fun c => if c = 59 then [32, 59, 32] else [c]
theorem replL_rep : ∀ l : List Nat, PySem.StrLaws.replL [59] [32, 59, 32] l = rep l
  | [] => by rw [PySem.StrLaws.replL_nil]; rfl
  | c :: r => by
    by_cases h : c = 59
    · subst h
      rw [PySem.StrLaws.replL_hit (by decide) rfl, show List.drop ([59] : List Nat).length (59 :: r) = r from rfl, replL_rep r]
      rfl
    · rw [PySem.StrLaws.replL_miss (by simp [h]), replL_rep r]
      unfold rep
      rw [List.flatMap_cons, if_neg h]
      rfl
theorem sp32 : Unicode.isSpace 32 = true := by decide +kernel
theorem sp10 : Unicode.isSpace 10 = true := by decide +kernel
theorem sp59 : Unicode.isSpace 59 = false := by decide +kernel
theorem wstep_sp {d : List (List Nat)} {u : List Nat} {c : Nat} (h : Unicode.isSpace c = true) : TL.wstep (d, u) c = (d ++ (if u = [] then [] else [u]), []) := by
  unfold TL.wstep
  rw [if_pos h]
  by_cases e : u = []
  · subst e; simp
  · rw [if_neg e, if_neg e]
theorem wstep_ch {d : List (List Nat)} {u : List Nat} {c : Nat} (h : Unicode.isSpace c = false) : TL.wstep (d, u) c = (d, u ++ [c]) := by
  unfold TL.wstep
  rw [if_neg (by rw [h]; decide)]
theorem fold_ch : ∀ (w : List Nat) (d : List (List Nat)) (u : List Nat), (∀ c ∈ w, Unicode.isSpace c = false) → w.foldl TL.wstep (d, u) = (d, u ++ w)
  | [], d, u, _ => by simp
  | c :: r, d, u, h => by
    rw [List.foldl_cons, wstep_ch (h c (List.mem_cons_self ..)), fold_ch r d _ fun x hx => h x (List.mem_cons_of_mem _ hx), List.append_assoc]
    rfl
theorem rep_no : ∀ w : List Nat, (∀ c ∈ w, c ≠ 59) → rep w = w
  | [], _ => rfl
  | c :: r, h => by
    unfold rep
    rw [List.flatMap_cons, if_neg (h c (List.mem_cons_self ..))]
    have := rep_no r fun x hx => h x (List.mem_cons_of_mem _ hx)
    unfold rep at this
    rw [this]
    rfl
theorem rep_app (a b : List Nat) : rep (a ++ b) = rep a ++ rep b := List.flatMap_append
theorem words_tx {l : List Nat} {ws : List Str} (h : Tx l ws) : ∀ (d : List (List Nat)) (u : List Nat), (u = [] ∨ Stop l) → TL.wfin ((rep l).foldl TL.wstep (d, u)) = d ++ (if u = [] then [] else [u]) ++ ws.map tl := by
  induction h with
  | nil =>
    intro d u _
    show TL.wfin (d, u) = _
    unfold TL.wfin
    by_cases e : u = []
    · subst e; simp
    · simp [e]
  | @sp c l ws h t ih =>
    intro d u _
    have hc : Unicode.isSpace c = true := by rcases h with rfl | rfl; exact sp32; exact sp10
    have h59 : c ≠ 59 := by omega
    have e : rep (c :: l) = c :: rep l := by unfold rep; rw [List.flatMap_cons, if_neg h59]; rfl
    rw [e, List.foldl_cons, wstep_sp hc, ih _ [] (.inl rfl)]
    simp
  | @wd w l ws h s t ih =>
    intro d u hu
    rw [rep_app]
    by_cases hw : w = ";"
    · subst hw
      rw [List.foldl_append, show rep (tl ";") = [32, 59, 32] from rfl]
      rw [List.foldl_cons, List.foldl_cons, List.foldl_cons, List.foldl_nil, wstep_sp sp32, wstep_ch sp59, wstep_sp sp32, ih _ [] (.inl rfl)]
      simp [tl_semi]
    · have hs : Stop l := s.resolve_left hw
      have hch : tl w ≠ [] ∧ ∀ c ∈ tl w, c ≠ 59 ∧ Unicode.isSpace c = false ∧ ¬ (c = 32 ∨ c = 10 ∨ c = 59) := by
        rcases h.c with e | ⟨h1, h2⟩ | ⟨h1, h2⟩
        · exact absurd e hw
        · exact ⟨h1, fun c hc => by have := let_no c (h2 c hc); exact ⟨this.2.2.1, this.2.2.2.2, by omega⟩⟩
        · exact ⟨h1, fun c hc => by have := dig_no c (h2 c hc); exact ⟨this.2.2.1, this.2.2.2.2, by omega⟩⟩
      have hu0 : u = [] := hu.resolve_right fun q => by
        rcases q with q | ⟨c, r, q, hc⟩
        · rw [List.append_eq_nil_iff] at q
          exact hch.1 q.1
        · cases e : tl w with
          | nil => exact hch.1 e
          | cons x y =>
            rw [e] at q
            have : x = c := (List.cons.inj q).1
            exact (hch.2 x (by rw [e]; exact List.mem_cons_self ..)).2.2 (by rw [this]; exact hc)
      subst hu0
      rw [rep_no _ fun c hc => (hch.2 c hc).1, List.foldl_append, fold_ch _ _ _ fun c hc => (hch.2 c hc).2.1, List.nil_append, ih _ _ (.inr hs), if_neg hch.1]
      simp
end Sw

/-! Words that make statements, statements that make a plan. -/
namespace Sw
open PySem L2
theorem mt_cons {ts : List Tk} {w : Str} {ws : List Str} (h : Mt ts (w :: ws)) : ∃ t r, ts = t :: r ∧ t.kind = kd w ∧ t.text = w ∧ Mt r ws := by
  unfold Mt at h
  cases ts with
  | nil => cases h
  | cons t r =>
    rw [List.map_cons, List.map_cons, List.cons.injEq] at h
    obtain ⟨h1, h2⟩ := h
    unfold kt at h1
    rw [Prod.mk.injEq] at h1
    exact ⟨t, r, rfl, h1.1, h1.2, h2⟩
theorem mt_nil {ts : List Tk} (h : Mt ts []) : ts = [] := List.map_eq_nil_iff.mp h
theorem kd_kw : ∀ w ∈ KWS, kd w = w := by decide +kernel
theorem kd_semi : kd ";" = ";" := by decide +kernel
theorem kd_sg : ∀ w ∈ SG5, kd w = "name" := by decide +kernel
theorem kd_md : ∀ w ∈ MD7, kd w = "name" := by decide +kernel
theorem num_ok (t : Nat) (h : t ≤ 16) : kd (nS (t : Int)) = "number" ∧ PySem.intText? (nS (t : Int)) = some (t : Int) := by
  have : ∀ k : Fin 17, kd (nS ((k.val : Nat) : Int)) = "number" ∧ PySem.intText? (nS ((k.val : Nat) : Int)) = some ((k.val : Nat) : Int) := by decide +kernel
  exact this ⟨t, by omega⟩
inductive Ab where
  | rob (t : Nat) (b : Bool)
  | put (i t : Nat)
  | rule (x : (Nat × Nat) × Nat × Nat × Nat)
  deriving DecidableEq
def side (b : Bool) : Str := if b then "right" else "left"
def abW (p : LP) : Ab → List Str
  | .rob t b => ["robot", nS (t : Int), side b, ";"]
  | .put i t => ["put", p.sg.getD i Str.empty, nS (t : Int), ";"]
  | .rule x => ["when", p.md.getD x.1.1 Str.empty, p.sg.getD x.1.2 Str.empty, "leave", p.sg.getD x.2.1 Str.empty, MOVESs.getD x.2.2.1 Str.empty, p.md.getD x.2.2.2 Str.empty, ";"]
def abOK (p : LP) : Ab → Prop
  | .rob t _ => t < p.fl.length
  | .put i t => i < p.sg.length ∧ t < p.fl.length
  | .rule x => x.1.1 < p.md.length ∧ x.1.2 < p.sg.length ∧ x.2.1 < p.sg.length ∧ x.2.2.1 < 3 ∧ x.2.2.2 < p.md.length
def app (pd : PlanD) : Ab → PlanD
  | .rob t b => { pd with robots := pd.robots ++ [((t : Int), if b then 1 else 0)] }
  | .put i t => { pd with puts := pd.puts ++ [((t : Int), i)] }
  | .rule x => { pd with rules := pd.rules ++ [x] }
def preA (pd : PlanD) : Ab → Prop
  | .rob _ _ => pd.robots.length < 3
  | .put _ t => ¬ (t : Int) ∈ pd.puts.map (·.1)
  | .rule x => ¬ x.1 ∈ pd.rules.map (·.1)
def PreAll : PlanD → List Ab → Prop
  | _, [] => True
  | pd, a :: r => preA pd a ∧ PreAll (app pd a) r
structure Fit (p : LP) (pd : PlanD) : Prop where
  sz : pd.size = (p.fl.length : Int)
  sg : pd.signs = p.sg
  md : pd.moods = p.md
theorem Fit.app {p : LP} {pd : PlanD} (h : Fit p pd) (a : Ab) : Fit p (app pd a) := by
  cases a <;> exact ⟨h.sz, h.sg, h.md⟩
theorem idx_nodup : ∀ {l : List Str} {i : Nat}, l.Nodup → i < l.length → l.idxOf (l.getD i Str.empty) = i
  | [], _, _, h => by cases h
  | x :: r, 0, _, _ => idxOf_pos rfl
  | x :: r, i + 1, hn, h => by
    rw [List.nodup_cons] at hn
    have hi : i < r.length := Nat.lt_of_succ_lt_succ h
    have e : (x :: r).getD (i + 1) Str.empty = r.getD i Str.empty := rfl
    have hm : r.getD i Str.empty ∈ r := by
      rw [List.getD_eq_getElem?_getD, List.getElem?_eq_getElem hi]
      exact List.getElem_mem hi
    rw [e, idxOf_neg fun q => hn.1 (by rw [q]; exact hm), idx_nodup hn.2 hi]
theorem getD_mem {l : List Str} {i : Nat} (h : i < l.length) : l.getD i Str.empty ∈ l := by
  rw [List.getD_eq_getElem?_getD, List.getElem?_eq_getElem h]
  exact List.getElem_mem h
theorem idxM_at {l : List Str} {i : Nat} {t : Tk} (hn : l.Nodup) (h : i < l.length) (e : t.text = l.getD i Str.empty) : idxM l t = some i := by
  unfold idxM
  rw [e, if_pos (getD_mem h), idx_nodup hn h]
theorem tileM_at {p : LP} {pd : PlanD} {most : Nat} (G : GoodLP most p) (hm : most ≤ 16) (h : Fit p pd) {t : Nat} {tk : Tk} (ht : t < p.fl.length) (e : tk.text = nS (t : Int)) : tileM pd tk = some (t : Int) := by
  unfold tileM
  have := G.f1
  rw [e, (num_ok t (by omega)).2]
  dsimp only
  rw [if_pos (by rw [h.sz]; omega)]
theorem move_at : ∀ d : Nat, d < 3 → moveM (MOVESs.getD d Str.empty) = some d ∧ (kd (MOVESs.getD d Str.empty) = "on" ∨ kd (MOVESs.getD d Str.empty) = "back" ∨ kd (MOVESs.getD d Str.empty) = "stay")
  | 0, _ => by decide +kernel
  | 1, _ => by decide +kernel
  | 2, _ => by decide +kernel
  | n + 3, h => by omega
theorem side_at (b : Bool) : sideM (side b) = some (if b then 1 else 0) ∧ (kd (side b) = "left" ∨ kd (side b) = "right") := by cases b <;> decide +kernel
theorem sg_len8 {most : Nat} {p : LP} (G : GoodLP most p) : ∀ s ∈ p.sg, s.length ≤ 8 := sg_len G
theorem nS_len (t : Nat) (h : t ≤ 16) : (nS (t : Int)).length ≤ 2 := nS_small _ (by omega) (by omega)
theorem mv_len : ∀ d : Nat, d < 3 → (MOVESs.getD d Str.empty).length ≤ 8
  | 0, _ => by decide +kernel
  | 1, _ => by decide +kernel
  | 2, _ => by decide +kernel
  | n + 3, h => by omega
theorem side_len (b : Bool) : (side b).length ≤ 8 := by cases b <;> decide +kernel
def PartsOK (s : Stm) : Prop := s.parts.length ≤ 1000 ∧ ∀ t ∈ s.parts, t.text.length ≤ 600
theorem step_ab {p : LP} {pd : PlanD} (G : GoodLP 16 p) (F : Fit p pd) {a : Ab} (ha : abOK p a) (hp : preA pd a) {ts : List Tk} {ws : List Str} (h : Mt ts (abW p a ++ ws)) :
    ∃ s r, pStatement ts = some (s, r) ∧ Mt r ws ∧ addM pd s = some (app pd a) ∧ PartsOK s := by
  have f1 := G.f1
  cases a with
  | rob t b =>
    obtain ⟨t0, r0, rfl, k0, x0, h⟩ := mt_cons h
    obtain ⟨t1, r1, rfl, k1, x1, h⟩ := mt_cons h
    obtain ⟨t2, r2, rfl, k2, x2, h⟩ := mt_cons h
    obtain ⟨t3, r3, rfl, k3, x3, h⟩ := mt_cons h
    rw [kd_kw _ (by decide +kernel)] at k0
    rw [(num_ok t (by have : t < p.fl.length := ha; omega)).1] at k1
    rw [kd_semi] at k3
    refine ⟨⟨t0, [t1, t2]⟩, r3, ?_, h, ?_, by show 2 ≤ 1000; decide, fun q hq => ?_⟩
    · unfold pStatement
      dsimp only
      rw [k0, if_neg (by decide +kernel), if_neg (by decide +kernel)]
      unfold pRobot
      dsimp only
      rw [if_pos ⟨k0, k1, by rw [k2]; exact (side_at b).2, k3⟩]
    · unfold addM
      dsimp only
      rw [k0, if_neg (by decide +kernel), if_neg (by decide +kernel), if_neg (by decide +kernel), if_pos rfl, if_pos (show pd.robots.length < 3 from hp), tileM_at G (Nat.le_refl _) F ha x1, x2, (side_at b).1]
      rfl
    · rcases List.mem_cons.mp hq with rfl | hq
      · rw [x1]; have := nS_len t (by have : t < p.fl.length := ha; omega); omega
      · rw [List.mem_singleton.mp hq, x2]; have := side_len b; omega
  | put i t =>
    obtain ⟨hi, ht⟩ := ha
    obtain ⟨t0, r0, rfl, k0, x0, h⟩ := mt_cons h
    obtain ⟨t1, r1, rfl, k1, x1, h⟩ := mt_cons h
    obtain ⟨t2, r2, rfl, k2, x2, h⟩ := mt_cons h
    obtain ⟨t3, r3, rfl, k3, x3, h⟩ := mt_cons h
    have hs := getD_mem hi
    rw [kd_kw _ (by decide +kernel)] at k0
    rw [kd_sg _ (G.sg _ hs)] at k1
    rw [(num_ok t (by omega)).1] at k2
    rw [kd_semi] at k3
    refine ⟨⟨t0, [t1, t2]⟩, r3, ?_, h, ?_, by show 2 ≤ 1000; decide, fun q hq => ?_⟩
    · unfold pStatement
      dsimp only
      rw [k0, if_pos rfl]
      unfold pPut
      dsimp only
      rw [if_pos ⟨k0, k1, k2, k3⟩]
    · unfold addM
      dsimp only
      rw [k0, if_neg (by decide +kernel), if_neg (by decide +kernel), if_neg (by decide +kernel), if_neg (by decide +kernel), if_pos rfl, F.sg, idxM_at G.sd hi x1, tileM_at G (Nat.le_refl _) F ht x2]
      dsimp only
      rw [if_neg (show ¬ (t : Int) ∈ pd.puts.map (·.1) from hp)]
      unfold app
      rw [← F.sg]
    · rcases List.mem_cons.mp hq with rfl | hq
      · rw [x1]; have := sg_len G _ hs; omega
      · rw [List.mem_singleton.mp hq, x2]; have := nS_len t (by omega); omega
  | rule x =>
    obtain ⟨h1, h2, h3, h4, h5⟩ := ha
    obtain ⟨t0, r0, rfl, k0, x0, h⟩ := mt_cons h
    obtain ⟨t1, r1, rfl, k1, x1, h⟩ := mt_cons h
    obtain ⟨t2, r2, rfl, k2, x2, h⟩ := mt_cons h
    obtain ⟨t3, r3, rfl, k3, x3, h⟩ := mt_cons h
    obtain ⟨t4, r4, rfl, k4, x4, h⟩ := mt_cons h
    obtain ⟨t5, r5, rfl, k5, x5, h⟩ := mt_cons h
    obtain ⟨t6, r6, rfl, k6, x6, h⟩ := mt_cons h
    obtain ⟨t7, r7, rfl, k7, x7, h⟩ := mt_cons h
    rw [kd_kw _ (by decide +kernel)] at k0 k3
    rw [kd_md _ (G.md _ (getD_mem h1))] at k1
    rw [kd_sg _ (G.sg _ (getD_mem h2))] at k2
    rw [kd_sg _ (G.sg _ (getD_mem h3))] at k4
    rw [kd_md _ (G.md _ (getD_mem h5))] at k6
    rw [kd_semi] at k7
    refine ⟨⟨t0, [t1, t2, t4, t5, t6]⟩, r7, ?_, h, ?_, by show 5 ≤ 1000; decide, fun q hq => ?_⟩
    · unfold pStatement
      dsimp only
      rw [k0, if_neg (by decide +kernel), if_pos rfl]
      unfold pRule
      dsimp only
      rw [if_pos ⟨k0, k1, k2, k3, k4, by rw [k5]; exact (move_at _ h4).2, k6, k7⟩]
    · unfold addM
      dsimp only
      rw [k0, if_neg (by decide +kernel), if_neg (by decide +kernel), if_neg (by decide +kernel), if_neg (by decide +kernel), if_neg (by decide +kernel), if_pos rfl, F.sg, F.md, idxM_at G.dd h1 x1, idxM_at G.sd h2 x2, idxM_at G.sd h3 x4, x5, (move_at _ h4).1, idxM_at G.dd h5 x6]
      dsimp only
      rw [if_neg (show ¬ (x.1.1, x.1.2) ∈ pd.rules.map (·.1) from hp)]
      unfold app
      rw [← F.sg, ← F.md]
    · have e1 := md_len G _ (getD_mem h1)
      have e2 := sg_len G _ (getD_mem h2)
      have e3 := sg_len G _ (getD_mem h3)
      have e4 := mv_len _ h4
      have e5 := md_len G _ (getD_mem h5)
      simp only [List.mem_cons, List.not_mem_nil, or_false] at hq
      rcases hq with rfl | rfl | rfl | rfl | rfl
      · rw [x1]; omega
      · rw [x2]; omega
      · rw [x4]; omega
      · rw [x5]; omega
      · rw [x6]; omega
theorem all_ab {p : LP} (G : GoodLP 16 p) : ∀ (abs : List Ab) (pd : PlanD) (ts : List Tk) (n : Nat), ts.length ≤ n → Fit p pd → (∀ a ∈ abs, abOK p a) → PreAll pd abs → Mt ts (abs.flatMap (abW p)) →
    ∃ ss, pAll n ts = some ss ∧ addAll pd ss = some (abs.foldl app pd) ∧ (∀ s ∈ ss, PartsOK s) ∧ ss.length = abs.length
  | [], pd, ts, n, _, _, _, _, h => by
    have e := mt_nil h
    subst e
    refine ⟨[], ?_, rfl, (fun s hs => by cases hs), rfl⟩
    cases n <;> rfl
  | a :: r, pd, ts, n, hn, F, ha, hp, h => by
    rw [List.flatMap_cons] at h
    obtain ⟨s, r', e1, h2, e2, h3⟩ := step_ab G F (ha a (List.mem_cons_self ..)) hp.1 h
    have hl := pStatement_len e1
    obtain ⟨ss, g1, g2, g3, g4⟩ := all_ab G r (app pd a) r' (n - 1) (by omega) (F.app a) (fun b hb => ha b (List.mem_cons_of_mem _ hb)) hp.2 h2
    cases ts with
    | nil => exact absurd hl (Nat.not_lt_zero _)
    | cons t0 tr =>
      cases n with
      | zero => exact absurd hn (by simp)
      | succ n =>
        refine ⟨s :: ss, ?_, ?_, fun q hq => ?_, by rw [List.length_cons, List.length_cons, g4]⟩
        · unfold pAll
          rw [e1]
          dsimp only
          rw [show n + 1 - 1 = n from rfl] at g1
          rw [g1]
          rfl
        · unfold addAll
          rw [e2]
          dsimp only
          exact g2
        · rcases List.mem_cons.mp hq with rfl | hq
          · exact h3
          · exact g3 q hq
end Sw

/-! The lexer's defs. -/
namespace Sw
open PySem L2
/-- a Token object -/
def tkFs (t : Tk) : List (Str × V) := [("kind", .str t.kind), ("text", .str t.text), ("line", .int t.line), ("column", .int t.col)]
def TkAt (a : Adr) (H : Hp) (p : Addr) (t : Tk) : Prop := ∃ dx, H p = some (.ins a.cToken dx (tkFs t))
theorem TkAt.mono {a : Adr} {H H' : Hp} {p : Addr} {t : Tk} (s : Same H H') (h : TkAt a H p t) : TkAt a H' p t := let ⟨dx, e⟩ := h; ⟨dx, s _ _ e⟩
/-- a list of such -/
def TksAt (a : Adr) (H : Hp) (ps : List Addr) (ts : List Tk) : Prop := Paired (TkAt a H) ps ts
theorem TksAt.mono {a : Adr} {H H' : Hp} {ps : List Addr} {ts : List Tk} (s : Same H H') (h : TksAt a H ps ts) : TksAt a H' ps ts := Paired.mapP h fun _ _ => TkAt.mono s

def sp_run_end (K : PySem.W.Frag) (a : Adr) : Sp := fun vs H Q _ => ∃ (row z : Str) (pre post : List Nat), vs = [.str row, .int (pre.length : Int), .str z] ∧ row.cps.toList = pre ++ post ∧ row.length ≤ 100000 ∧ Q (.int ((pre.length + runLen z post : Nat) : Int)) H
def sp_token_end (K : PySem.W.Frag) (a : Adr) : Sp := fun vs H Q _ => ∃ (row : Str) (pre : List Nat) (c : Nat) (post : List Nat), vs = [.str row, .int (pre.length : Int)] ∧ row.cps.toList = pre ++ c :: post ∧ row.length ≤ 100000 ∧ ∀ H', Same H H' → Q (.int ((pre.length + tokLen (c :: post) : Nat) : Int)) H'

section
variable {P : Program} {w : World} {K : PySem.W.Frag} {mg : Str → Option Value} {base : Heap} {a : Adr}
theorem ok_run_end {f : Addr} {fd : FuncData} (F : Fun K "run_end" "run_end" s_run_end f fd) (T : Txt w K mg a)
     :
    FnOk P w K mg base CX0 1 f fd ps_run_end (sp_run_end K a) := by
  refine F.ok sc_run_end (fun vs H Q E h => ?_) (fun cdv A outer s H vs Q E hr h => ?_)
  · obtain ⟨row, z, pre, post, rfl, hrow, hl, k⟩ := h
    rfl
  obtain ⟨row, z, pre, post, rfl, hrow, hl, k⟩ := h
  have hu := hu_of hr
  refine ⟨_, 
    (pss_cons (ps_set (i := 3) sc_run_end.nd rfl (.inl rfl) (pv 1)) 
    (pss_cons (ps_while PassesOwn.never (PW.pt (pw_and (pt_cmpR op_lt (pv 3) (pe_callB call_len_str (by rfl) T.n_len PySem.boot_len (pa_cons (pv 0) pa_nil)) (nomark _)) (pw_and1 (pt_cmpR op_in_sign (pe_ix ix_str (pv 0) (pv 3) (fun _ _ => rfl)) (pv 2) rfl)))) 
      (pss_one (ps_aug (i := 3) sc_run_end.nd rfl (.inl rfl) pe_int ip_add))) 
    (pss_one (ps_ret (pv 3))))), ?_⟩
  repeat walk_at "st"
  refine r_while (fun m σ H1 => H1 = H ∧ ∃ pre' post', row.cps.toList = pre' ++ post' ∧ post'.length = m ∧ pre.length + runLen z post = pre'.length + runLen z post' ∧
    σ = [some (.str row), some (.int (pre.length : Int)), some (.str z), some (.int (pre'.length : Int))]) (m0 := post.length) ⟨rfl, pre, post, hrow, rfl, rfl, rfl⟩ ?_
  rintro m σ H1 ⟨rfl, pre', post', e1, rfl, e2, rfl⟩
  refine r_and ?_
  repeat walk_at "st"
  have hn : row.length = pre'.length + post'.length := by rw [len_cps, e1, List.length_append]
  cases post' with
  | nil =>
    rw [decide_eq_false (by rw [hn]; simp)]
    refine iteF ?_
    repeat walk_at "st"
    refine iteF ?_
    repeat walk_at "st"
    rw [show pre.length + runLen z post = pre'.length from e2] at k
    exact k
  | cons c r =>
    rw [decide_eq_true (by rw [hn, List.length_cons]; omega)]
    refine iteT ?_
    repeat walk_at "st"
    refine ite2 (fun h => ?_) fun h => ?_
    · refine ⟨_, fun _ _ h => h, ?_⟩
      repeat walk_at "st"
      refine ⟨r.length, by simp, rfl, pre' ++ [c], r, by rw [e1]; simp, rfl, ?_, by simp⟩
      rw [e2, runLen, if_pos (show inS z c = true from h), List.length_append]
      simp; omega
    · repeat walk_at "st"
      rw [runLen, if_neg (show ¬ inS z c = true from h)] at e2
      rw [e2] at k
      exact k
theorem ok_token_end {f : Addr} {fd : FuncData} (F : Fun K "token_end" "token_end" s_token_end f fd) (T : Txt w K mg a)
    {f_run_end : Addr} {fd_run_end : FuncData} (G_run_end : Cal P w K mg base "run_end" 1 f_run_end fd_run_end ps_run_end (sp_run_end K a)) :
    FnOk P w K mg base CX0 2 f fd ps_token_end (sp_token_end K a) := by
  refine F.ok sc_token_end (fun vs H Q E h => ?_) (fun cdv A outer s H vs Q E hr h => ?_)
  · obtain ⟨row, pre, c, post, rfl, hrow, hl, k⟩ := h
    rfl
  obtain ⟨row, pre, c, post, rfl, hrow, hl, k⟩ := h
  have hu := hu_of hr
  refine ⟨_, 
    (pss_cons (ps_for PassesOwn.never rfl (pi_tup (pe_tup (pa_cons (pgS rfl T.g_LETTERS) (pa_cons (pgS rfl T.g_DIGITS) pa_nil)))) (pg_name (i := 2) sc_token_end.nd rfl (.inl rfl)) 
      (pss_one (ps_if (pt_cmpR op_in_sign (pe_ix ix_str (pv 0) (pv 1) (fun _ _ => rfl)) (pv 2) rfl) 
        (pss_one (ps_ret (pe_call G_run_end.ok (hr.mono (by decide)) rfl G_run_end.mg' G_run_end.kp G_run_end.b .nil pass0 (pa_cons (pv 0) (pa_cons (pv 1) (pa_cons (pv 2) pa_nil)))))) pss_nil))) 
    (pss_one (ps_ret (pe_op op_add (pv 1) pe_int)))), ?_⟩
  repeat walk_at "st"
  refine ⟨by decide, fun p np => ?_⟩
  refine r_itT (SqT.of upd_same) ?_
  have s1 : Same H (upd H p (.tup [.str LET, .str DIG])) := Same.new np
  refine for_tup (xs := [.str LET, .str DIG]) (fun i σ H1 => H1 = upd H p (.tup [.str LET, .str DIG]) ∧ (0 < i → inS LET c = false) ∧ (1 < i → inS DIG c = false) ∧ ∃ x, σ = [some (.str row), some (.int (pre.length : Int)), x]) ⟨rfl, fun h => absurd h (by omega), fun h => absurd h (by omega), _, rfl⟩ ?_ ?_ ?_
  · rintro i σ H1 _ ⟨rfl, _⟩
    exact SqT.of upd_same
  · rintro i x σ H1 hx ⟨rfl, h0, h1, y, rfl⟩
    obtain ⟨z, rfl, ht, hf⟩ : ∃ z : Str, x = .str z ∧ (inS z c = true → tokLen (c :: post) = runLen z (c :: post)) ∧
        (inS z c = false → (0 < i + 1 → inS LET c = false) ∧ (1 < i + 1 → inS DIG c = false)) := by
      match i, hx with
      | 0, hx =>
        refine ⟨LET, (Option.some.inj hx).symm, fun h => ?_, fun h => ⟨fun _ => h, fun h => absurd h (by omega)⟩⟩
        unfold tokLen; rw [hd1_cons, if_pos h]
      | 1, hx =>
        refine ⟨DIG, (Option.some.inj hx).symm, fun h => ?_, fun h => ⟨fun _ => h0 (by omega), fun _ => h⟩⟩
        unfold tokLen; rw [hd1_cons, hd1_cons, if_neg (by rw [h0 (by omega)]; decide), if_pos h]
    repeat walk_at "st"
    refine ite2 (fun h => ?_) fun h => ?_
    · repeat walk_at "st"
      refine ⟨row, z, pre, c :: post, rfl, hrow, hl, ?_⟩
      rw [← ht h]
      exact k _ s1
    · repeat walk_at "st"
      have h' : inS z c = false := by simpa [inS] using h
      exact ⟨rfl, (hf h').1, (hf h').2, _, rfl⟩
  · rintro σ H1 ⟨rfl, h0, h1, y, rfl⟩
    repeat walk_at "st"
    have e : tokLen (c :: post) = 1 := by
      unfold tokLen; rw [hd1_cons, hd1_cons, if_neg (by rw [h0 (by decide)]; decide), if_neg (by rw [h1 (by decide)]; decide)]
    rw [e] at k
    exact k _ s1
def optV : Option Str → V
  | some z => .str z
  | none => .non
def sp_kind_of (K : PySem.W.Frag) (a : Adr) : Sp := fun vs H Q _ => ∃ (z : Str) (c : Nat) (r : List Nat), vs = [.str z] ∧ z.cps.toList = c :: r ∧ z.length ≤ 100000 ∧ Q (optV (kindOf z)) H
theorem at0 {z : Str} {c : Nat} {r : List Nat} (h : z.cps.toList = c :: r) : atI z.cps.toList 0 = some c := by
  rw [h]; exact atI_nat (j := 0) rfl
theorem ok_kind_of {f : Addr} {fd : FuncData} (F : Fun K "kind_of" "kind_of" s_kind_of f fd) (T : Txt w K mg a)
     :
    FnOk P w K mg base CX0 1 f fd ps_kind_of (sp_kind_of K a) := by
  refine F.ok sc_kind_of (fun vs H Q E h => ?_) (fun cdv A outer s H vs Q E hr h => ?_)
  · obtain ⟨z, c, r, rfl, hz, hl, k⟩ := h
    rfl
  obtain ⟨z, c, r, rfl, hz, hl, k⟩ := h
  have hu := hu_of hr
  refine ⟨_, 
    (pss_cons (ps_if (PW.pt (pw_or (pt_cmpR op_eq (pv 0) pe_str (nomark _)) (pw_or1 (pt_cmpR op_in_seq (pv 0) (pgR rfl T.g_KEYWORDS) rfl)))) 
      (pss_one (ps_ret (pv 0))) pss_nil) 
    (pss_cons (ps_if (PW.pt (pw_and (pt_cmpR op_in_sign (pe_ix ix_str (pv 0) pe_int (fun _ _ => rfl)) (pgS rfl T.g_LETTERS) rfl) (pw_and1 (pt_cmpR op_le (pe_callB call_len_str (by rfl) T.n_len PySem.boot_len (pa_cons (pv 0) pa_nil)) (pgI rfl T.g_LONGEST_WORD) (nomark _))))) 
      (pss_one (ps_ret pe_str)) pss_nil) 
    (pss_cons (ps_if (PW.pt (pw_and (pt_cmpR op_in_sign (pe_ix ix_str (pv 0) pe_int (fun _ _ => rfl)) (pgS rfl T.g_DIGITS) rfl) (pw_and1 (pt_cmpR op_le (pe_callB call_len_str (by rfl) T.n_len PySem.boot_len (pa_cons (pv 0) pa_nil)) (pgI rfl T.g_LONGEST_NUMBER) (nomark _))))) 
      (pss_one (ps_if (PW.pt (pw_or (pt_cmpR op_eq (pv 0) pe_str (nomark _)) (pw_or1 (pt_cmpR op_ne (pe_ix ix_str (pv 0) pe_int (fun _ _ => rfl)) pe_str (nomark _))))) 
        (pss_one (ps_ret pe_str)) pss_nil)) pss_nil) 
    (pss_one (ps_ret pe_non))))), ?_⟩
  have hlet : hd1 LET z.cps.toList = inS LET c := by rw [hz]; rfl
  have hdig : hd1 DIG z.cps.toList = inS DIG c := by rw [hz]; rfl
  have h48 : (z.cps.toList.head? ≠ some 48) ↔ ¬ c = 48 := by rw [hz]; simp
  have hz0 := at0 hz
  unfold kindOf at k
  rw [hlet, hdig] at k
  repeat walk_at "st"
  refine r_or2 (decide (z = ";")) (decide (z ∈ KWS)) (fun QB q => ?_) (fun _ QB q => ?_) ?_
  · repeat walk_at "st"
    rw [dec_str]; exact q
  · repeat walk_at "st"
    refine r_inSeq (xs := KWS.map V.str) (.inr T.t_KEYWORDS.sq) rfl (flat_strs' _) ?_
    rw [inV_strs]
    repeat walk_at "st"
    exact q
  refine ite_b (p := z = ";" ∨ z ∈ KWS) (by simp) (fun h => ?_) fun h => ?_
  · repeat walk_at "st"
    rw [if_pos h] at k; exact k
  rw [if_neg h] at k
  repeat walk_at "st"
  refine r_and2 (inS LET c) (decide (z.length ≤ 8)) (fun QB q => ?_) (fun _ QB q => ?_) ?_
  · repeat walk_at "st"
    exact q
  · repeat walk_at "st"
    rw [show decide ((z.length : Int) ≤ 8) = decide (z.length ≤ 8) from decide_eq_decide.mpr (by omega)]; exact q
  refine ite_b (p := inS LET c = true ∧ z.length ≤ 8) (by simp) (fun h => ?_) fun h => ?_
  · repeat walk_at "st"
    rw [if_pos h] at k; exact k
  rw [if_neg h] at k
  repeat walk_at "st"
  refine r_and2 (inS DIG c) (decide (z.length ≤ 2)) (fun QB q => ?_) (fun _ QB q => ?_) ?_
  · repeat walk_at "st"
    exact q
  · repeat walk_at "st"
    rw [show decide ((z.length : Int) ≤ 2) = decide (z.length ≤ 2) from decide_eq_decide.mpr (by omega)]; exact q
  refine ite_b (p := inS DIG c = true ∧ z.length ≤ 2) (by simp) (fun h => ?_) fun h => ?_
  · rw [if_pos h] at k
    repeat walk_at "st"
    refine r_or2 (decide (z = "0")) (!decide (c = 48)) (fun QB q => ?_) (fun _ QB q => ?_) ?_
    · repeat walk_at "st"
      rw [dec_str]; exact q
    · repeat walk_at "st"
      rw [dec_str, show ("0" : Str) = ⟨#[48]⟩ by decide +kernel, dec_sign]; exact q
    refine ite_b (p := z = "0" ∨ z.cps.toList.head? ≠ some 48) (by simp [hz]) (fun h => ?_) fun h => ?_
    · repeat walk_at "st"
      rw [if_pos h] at k; exact k
    · rw [if_neg h] at k
      repeat walk_at "st"
      exact k
  · rw [if_neg h] at k
    repeat walk_at "st"
    exact k
/-! ### Token -/
def sp_Token_init (K : PySem.W.Frag) (a : Adr) : Sp := fun vs H Q _ => ∃ (p dx : Addr) (t : Tk), vs = [.ref p, .str t.kind, .str t.text, .int (t.line : Int), .int (t.col : Int)] ∧ H p = some (.ins a.cToken dx []) ∧
  ∀ H', H' p = some (.ins a.cToken dx (tkFs t)) → (∀ b o, H b = some o → b ≠ p → H' b = some o) → Q .non H'
theorem tk_put (x y z w : V) : putF "column" w (putF "line" z (putF "text" y (putF "kind" x []))) = ([("kind", x), ("text", y), ("line", z), ("column", w)] : List (Str × V)) := by
  simp only [putF, if_neg (show ¬ (("kind" : Str) = "text") by decide +kernel), if_neg (show ¬ (("kind" : Str) = "line") by decide +kernel), if_neg (show ¬ (("text" : Str) = "line") by decide +kernel),
    if_neg (show ¬ (("kind" : Str) = "column") by decide +kernel), if_neg (show ¬ (("text" : Str) = "column") by decide +kernel), if_neg (show ¬ (("line" : Str) = "column") by decide +kernel)]
theorem putF_len {f : Str} {v : V} {fs : List (Str × V)} {n : Nat} (h : fs.length ≤ n) : (putF f v fs).length ≤ n + 1 := Nat.le_trans (length_putF f v fs) (Nat.succ_le_succ h)
theorem upd_kept {H : Hp} {p : Addr} {o : HO} {b : Addr} {u : HO} (e : H b = some u) (n : b ≠ p) : upd H p o b = some u := by rw [upd_ne n]; exact e
theorem ok_Token_init {f : Addr} {fd : FuncData} (F : Fun K "__init__" "Token.__init__" s_Token_init f fd) (T : Txt w K mg a)
     :
    FnOk P w K mg base CX0 1 f fd ps_Token_init (sp_Token_init K a) := by
  refine F.ok sc_Token_init (fun vs H Q E h => ?_) (fun cdv A outer s H vs Q E hr h => ?_)
  · obtain ⟨p, dx, t, rfl, hp, k⟩ := h
    rfl
  obtain ⟨p, dx, t, rfl, hp, k⟩ := h
  have hu := hu_of hr
  refine ⟨_, 
    (pss_cons (ps_fld (pv 0) (pv 1) rfl) 
    (pss_cons (ps_fld (pv 0) (pv 2) rfl) 
    (pss_cons (ps_fld (pv 0) (pv 3) rfl) 
    (pss_one (ps_fld (pv 0) (pv 4) rfl))))), ?_⟩
  repeat walk_at "st"
  refine r_sfldOf hp T.cl_Token T.n_Token_kind (by decide) ?_
  repeat walk_at "st"
  refine r_sfldOf upd_same T.cl_Token T.n_Token_text (Nat.lt_of_le_of_lt (putF_len (n := 0) (Nat.le_refl _)) (by decide)) ?_
  repeat walk_at "st"
  refine r_sfldOf upd_same T.cl_Token T.n_Token_line (Nat.lt_of_le_of_lt (putF_len (n := 1) (putF_len (n := 0) (Nat.le_refl _))) (by decide)) ?_
  repeat walk_at "st"
  refine r_sfldOf upd_same T.cl_Token T.n_Token_column (Nat.lt_of_le_of_lt (putF_len (n := 2) (putF_len (n := 1) (putF_len (n := 0) (Nat.le_refl _)))) (by decide)) ?_
  rw [tk_put]
  exact k _ upd_same fun b o e n => upd_kept (upd_kept (upd_kept (upd_kept e n) n) n) n
theorem upd_lstTk {a : Adr} {H : Hp} {l : Addr} {xs ys : List V} {p : Addr} {t : Tk} (hl : H l = some (.lst xs)) (h : TkAt a H p t) : TkAt a (upd H l (.lst ys)) p t := by
  obtain ⟨dx, e⟩ := h
  exact ⟨dx, by rw [upd_ne (ne_of e hl (by intro z; cases z))]; exact e⟩
theorem Paired.snoc {α β : Type} {F : α → β → Prop} : ∀ {xs : List α} {ys : List β} {x : α} {y : β}, Paired F xs ys → F x y → Paired F (xs ++ [x]) (ys ++ [y])
  | _, _, _, _, .nil, h => .cons h .nil
  | _, _, _, _, .cons r t, h => .cons r (Paired.snoc t h)
theorem Paired.app {α β : Type} {F : α → β → Prop} : ∀ {xs us : List α} {ys vs : List β}, Paired F xs ys → Paired F us vs → Paired F (xs ++ us) (ys ++ vs)
  | _, _, _, _, .nil, h => h
  | _, _, _, _, .cons r t, h => .cons r (Paired.app t h)
theorem cut_mid {z : Str} {pre post : List Nat} (k : Nat) (h : z.cps.toList = pre ++ post) (hk : k ≤ post.length) : cutS z (some (pre.length : Int)) (some ((pre.length + k : Nat) : Int)) = ⟨(post.take k).toArray⟩ := by
  unfold cutS
  have hz : z.length = pre.length + post.length := by rw [len_cps, h, List.length_append]
  rw [HT.sIx_nat, HT.sIx_nat, hz, h, Nat.min_eq_left (by omega), Nat.min_eq_left (by omega), List.drop_left, show pre.length + k - pre.length = k by omega]
def sp_tokens_in (K : PySem.W.Frag) (a : Adr) : Sp := fun vs H Q _ => ∃ (row : Str) (line : Nat) (ts : List Tk), vs = [.str row, .int (line : Int)] ∧ row.length ≤ 100000 ∧ lexRow line row.cps.toList 0 = some ts ∧
  ∀ H' p ps, Same H H' → H p = none → H' p = some (.lst (ps.map V.ref)) → TksAt a H' ps ts → Q (.ref p) H'
theorem dec_space (c : Nat) : decide (V.str ⟨#[c]⟩ = V.str " ") = decide (c = 32) := by
  rw [dec_str, show (" " : Str) = ⟨#[32]⟩ by decide +kernel, dec_sign]
theorem ok_tokens_in {f : Addr} {fd : FuncData} (F : Fun K "tokens_in" "tokens_in" s_tokens_in f fd) (T : Txt w K mg a)
    {f_token_end : Addr} {fd_token_end : FuncData} (G_token_end : Cal P w K mg base "token_end" 2 f_token_end fd_token_end ps_token_end (sp_token_end K a))
    {f_kind_of : Addr} {fd_kind_of : FuncData} (G_kind_of : Cal P w K mg base "kind_of" 1 f_kind_of fd_kind_of ps_kind_of (sp_kind_of K a))
    {f_Token_init : Addr} {fd_Token_init : FuncData} (M_Token : Mk K a.cToken f_Token_init) (G_Token_init : CalM P w K mg base 1 f_Token_init fd_Token_init ps_Token_init (sp_Token_init K a)) :
    FnOk P w K mg base CX0 3 f fd ps_tokens_in (sp_tokens_in K a) := by
  refine F.ok sc_tokens_in (fun vs H Q E h => ?_) (fun cdv A outer s H vs Q E hr h => ?_)
  · obtain ⟨row, line, all, rfl, hl, hlex, k⟩ := h
    rfl
  obtain ⟨row, line, all, rfl, hl, hlex, k⟩ := h
  have hu := hu_of hr
  refine ⟨_, 
    (pss_cons (ps_set (i := 2) sc_tokens_in.nd rfl (.inl rfl) (pe_lst pa_nil)) 
    (pss_cons (ps_set (i := 3) sc_tokens_in.nd rfl (.inl rfl) pe_int) 
    (pss_cons (ps_while PassesOwn.never (pt_cmpR op_lt (pv 3) (pe_callB call_len_str (by rfl) T.n_len PySem.boot_len (pa_cons (pv 0) pa_nil)) (nomark _)) 
      (pss_cons (ps_if (pt_cmpR op_eq (pe_ix ix_str (pv 0) (pv 3) (fun _ _ => rfl)) pe_str (nomark _)) 
        (pss_cons (ps_aug (i := 3) sc_tokens_in.nd rfl (.inl rfl) pe_int ip_add) 
        (pss_one ps_continue)) pss_nil) 
      (pss_cons (ps_set (i := 4) sc_tokens_in.nd rfl (.inl rfl) (pe_call G_token_end.ok (hr.mono (by decide)) rfl G_token_end.mg' G_token_end.kp G_token_end.b .nil pass0 (pa_cons (pv 0) (pa_cons (pv 3) pa_nil)))) 
      (pss_cons (ps_set (i := 5) sc_tokens_in.nd rfl (.inl rfl) (pe_slice sl_str (pv 0) (po_some (pv 3)) (po_some (pv 4)))) 
      (pss_cons (ps_set (i := 6) sc_tokens_in.nd rfl (.inl rfl) (pe_call G_kind_of.ok (hr.mono (by decide)) rfl G_kind_of.mg' G_kind_of.kp G_kind_of.b .nil pass0 (pa_cons (pv 5) pa_nil))) 
      (pss_cons (ps_if (pt_cmpR op_isN (pv 6) pe_non (nomark _)) 
        (pss_one ps_never) pss_nil) 
      (pss_cons (ps_expr (pe_bm PySem.F.plainAttrs_list PySem.F.slot_list_append PySem.F.type_list_append mt_append (pv 2) (pa_cons (pe_make M_Token G_Token_init.ok (hr.mono (by decide)) rfl T.c_Token G_Token_init.b .nil pass0 (pa_cons (pv 6) (pa_cons (pv 5) (pa_cons (pv 1) (pa_cons (pv 3) pa_nil))))) pa_nil))) 
      (pss_one (ps_set (i := 3) sc_tokens_in.nd rfl (.inl rfl) (pv 4)))))))))) 
    (pss_one (ps_ret (pv 2)))))), ?_⟩
  repeat walk_at "st"
  refine ⟨by decide, fun l nl => ?_⟩
  repeat walk_at "st"
  refine r_while (fun m σ H1 => ∃ pre post ps ts rest, row.cps.toList = pre ++ post ∧ post.length = m ∧ lexRow line post pre.length = some rest ∧ ts ++ rest = all ∧ ps.length ≤ pre.length ∧
    H1 l = some (.lst (ps.map V.ref)) ∧ TksAt a H1 ps ts ∧ Same H H1 ∧ ∃ n x y z, n = pre.length ∧ σ = [some (.str row), some (.int (line : Int)), some (.ref l), some (.int (n : Nat)), x, y, z])
    (m0 := row.cps.toList.length) ⟨[], row.cps.toList, [], [], all, rfl, rfl, hlex, rfl, Nat.le_refl _, upd_same, .nil, Same.new nl, 0, _, _, _, rfl, rfl⟩ ?_
  rintro m σ H1 ⟨pre, post, ps, ts, rest, hrow, rfl, hrest, hall, hps, hl1, htk, s1, _, x, y, z, rfl, rfl⟩
  have hn : row.length = pre.length + post.length := by rw [len_cps, hrow, List.length_append]
  repeat walk_at "st"
  cases post with
  | nil =>
    rw [decide_eq_false (by rw [hn]; simp)]
    refine iteF ?_
    repeat walk_at "st"
    have er : rest = [] := (Option.some.inj hrest).symm
    subst er
    rw [List.append_nil] at hall
    subst hall
    exact k _ l ps s1 nl hl1 htk
  | cons c r =>
    rw [decide_eq_true (by rw [hn, List.length_cons]; omega)]
    refine iteT ⟨_, fun _ _ h => h, ?_⟩
    repeat walk_at "st"
    rw [dec_space]
    refine ite2 (fun h => ?_) fun h => ?_
    · have hc : c = 32 := of_decide_eq_true h
      subst hc
      rw [lexRow_space] at hrest
      repeat walk_at "st"
      refine ⟨r.length, by simp, pre ++ [32], r, ps, ts, rest, by rw [hrow]; simp, rfl, by rw [List.length_append]; exact hrest, hall, by rw [List.length_append]; omega, hl1, htk, s1, pre.length + 1, x, y, z, by simp, rfl⟩
    · have hc : ¬ c = 32 := fun e => h (decide_eq_true e)
      rw [lexRow_tok line r _ hc] at hrest
      have k1 := tokLen_pos c r
      have k2 := tokLen_le c r
      repeat walk_at "st"
      refine ⟨row, pre, c, r, rfl, hrow, hl, fun H2 s2 => ?_⟩
      repeat walk_at "st"
      rw [cut_mid _ hrow k2]
      repeat walk_at "st"
      obtain ⟨r', er⟩ : ∃ r', (c :: r).take (tokLen (c :: r)) = c :: r' := by
        cases hk : tokLen (c :: r) with
        | zero => omega
        | succ n => exact ⟨r.take n, by rw [List.take_succ_cons]⟩
      refine ⟨⟨((c :: r).take (tokLen (c :: r))).toArray⟩, c, r', rfl, er, ?_, ?_⟩
      · rw [len_cps]
        show ((c :: r).take (tokLen (c :: r))).length ≤ 100000
        rw [List.length_take]; rw [hn] at hl; omega
      cases hk : kindOf ⟨((c :: r).take (tokLen (c :: r))).toArray⟩ with
      | none => rw [hk] at hrest; cases hrest
      | some kd =>
        rw [hk] at hrest
        cases hrest' : lexRow line ((c :: r).drop (tokLen (c :: r))) (pre.length + tokLen (c :: r)) with
        | none => rw [hrest'] at hrest; cases hrest
        | some rest' =>
          rw [hrest'] at hrest
          have er2 : rest = ⟨kd, ⟨((c :: r).take (tokLen (c :: r))).toArray⟩, line, pre.length⟩ :: rest' := (Option.some.inj hrest).symm
          subst er2
          repeat walk_at "st"
          rw [show decide (optV (some kd) = V.non) = false from rfl]
          refine iteF ?_
          repeat walk_at "st"
          have hl2 := s2 _ _ hl1
          refine r_tyL (SqL.of hl2) ?_
          repeat walk_at "st"
          intro q dx nq ndx hdx
          refine ⟨q, dx, ⟨kd, ⟨((c :: r).take (tokLen (c :: r))).toArray⟩, line, pre.length⟩, rfl, upd_same, fun H3 hq hk3 => ⟨rfl, ?_⟩⟩
          have s3 : Same H2 H3 := Same.made nq ndx hk3
          repeat walk_at "st"
          have hl3 := s3 _ _ hl2
          refine r_app hl3 (by rw [List.length_map]; exact Nat.lt_of_le_of_lt (show ps.length ≤ 100000 by omega) (by decide)) ?_
          repeat walk_at "st"
          have ed : (c :: r).drop (tokLen (c :: r)) = (c :: r).drop (tokLen (c :: r)) := rfl
          have ets : TksAt a (upd H3 l (.lst (ps.map V.ref ++ [V.ref q]))) (ps ++ [q]) (ts ++ [⟨kd, ⟨((c :: r).take (tokLen (c :: r))).toArray⟩, line, pre.length⟩]) :=
            Paired.mapP (Paired.snoc ((htk.mono s2).mono s3) ⟨dx, hq⟩) fun _ _ h => upd_lstTk hl3 h
          refine ⟨((c :: r).drop (tokLen (c :: r))).length, by rw [List.length_drop]; omega, pre ++ (c :: r).take (tokLen (c :: r)), (c :: r).drop (tokLen (c :: r)), ps ++ [q], _, rest', ?_, rfl, ?_, ?_, ?_, ?_, ets, ?_, pre.length + tokLen (c :: r), _, _, _, ?_, rfl⟩
          · rw [List.append_assoc, List.take_append_drop]; exact hrow
          · rw [List.length_append, List.length_take, Nat.min_eq_left k2]; exact hrest'
          · rw [List.append_assoc]; exact hall
          · rw [List.length_append, List.length_append, List.length_take, Nat.min_eq_left k2]; show ps.length + 1 ≤ _; omega
          · rw [upd_same, List.map_append]; rfl
          · exact Same.mut ((s1.trans s2).trans s3) nl
          · rw [List.length_append, List.length_take, Nat.min_eq_left k2]
def sp_tokens_of (K : PySem.W.Frag) (a : Adr) : Sp := fun vs H Q _ => ∃ (z : Str) (ts : List Tk), vs = [.str z] ∧ z.length ≤ 90000 ∧ ts.length ≤ 90000 ∧ (∀ r ∈ TL.spl [10] 0 [] z.cps.toList, r.length ≤ 90000) ∧ lexRows 0 (TL.spl [10] 0 [] z.cps.toList) = some ts ∧
  ∀ H' p ps, Same H H' → H p = none → H' p = some (.lst (ps.map V.ref)) → TksAt a H' ps ts → Q (.ref p) H'
theorem Paired.len {α β : Type} {F : α → β → Prop} {xs : List α} {ys : List β} (h : Paired F xs ys) : xs.length = ys.length := Paired.length h
theorem ok_tokens_of {f : Addr} {fd : FuncData} (F : Fun K "tokens_of" "tokens_of" s_tokens_of f fd) (T : Txt w K mg a)
    {f_tokens_in : Addr} {fd_tokens_in : FuncData} (G_tokens_in : Cal P w K mg base "tokens_in" 3 f_tokens_in fd_tokens_in ps_tokens_in (sp_tokens_in K a)) :
    FnOk P w K mg base CX0 4 f fd ps_tokens_of (sp_tokens_of K a) := by
  refine F.ok sc_tokens_of (fun vs H Q E h => ?_) (fun cdv A outer s H vs Q E hr h => ?_)
  · obtain ⟨z, ts, rfl, hl, hts, hrl, hlex, k⟩ := h
    rfl
  obtain ⟨z, ts, rfl, hl, hts, hrl, hlex, k⟩ := h
  have hu := hu_of hr
  refine ⟨_, 
    (pss_cons (ps_set (i := 1) sc_tokens_of.nd rfl (.inl rfl) (pe_lst pa_nil)) 
    (pss_cons (ps_for PassesOwn.never rfl (pi_enum (by rfl) T.n_enumerate (pa_cons (pe_split (pv 0) pe_str) pa_nil)) (pg_tup rfl (pgs_cons (pg_name (i := 2) sc_tokens_of.nd rfl (.inl rfl)) (pgs_cons (pg_name (i := 3) sc_tokens_of.nd rfl (.inl rfl)) pgs_nil))) 
      (pss_one (ps_expr (pe_bm PySem.F.plainAttrs_list PySem.F.slot_list_extend PySem.F.type_list_extend mt_extend (pv 1) (pa_cons (pe_call G_tokens_in.ok (hr.mono (by decide)) rfl G_tokens_in.mg' G_tokens_in.kp G_tokens_in.b .nil pass0 (pa_cons (pv 3) (pa_cons (pv 2) pa_nil))) pa_nil))))) 
    (pss_one (ps_ret (pv 1))))), ?_⟩
  repeat walk_at "st"
  refine ⟨by decide, fun l nl => ?_⟩
  repeat walk_at "st"
  refine ⟨z, _, rfl, rfl, by decide +kernel, Nat.le_trans (show z.length + 2 ≤ 100000 by omega) (by decide), fun q nq => ?_⟩
  have hql : q ≠ l := fun e => by rw [e, upd_same] at nq; cases nq
  have nqH : H q = none := by rw [upd_ne hql] at nq; exact nq
  repeat walk_at "st"
  have erows : Txt.split z "\n" = (TL.spl [10] 0 [] z.cps.toList).map SX.S := by
    have e := SX.split_S (a := z.cps.toList) (b := [10]) (by decide) (by decide)
    rw [SX.S_tl] at e
    rw [← e]
    congr 1
    all_goals decide +kernel
  refine ⟨q, (Txt.split z "\n").map V.str, rfl, SqL.of upd_same, ?_⟩
  rw [erows, List.map_map]
  refine for_it (walk_enum (xs := (TL.spl [10] 0 [] z.cps.toList).map (V.str ∘ SX.S))) (fun i σ H1 => ∃ ps us rest, lexRows i ((TL.spl [10] 0 [] z.cps.toList).drop i) = some rest ∧ us ++ rest = ts ∧
    H1 l = some (.lst (ps.map V.ref)) ∧ H1 q = some (.lst ((TL.spl [10] 0 [] z.cps.toList).map (V.str ∘ SX.S))) ∧ TksAt a H1 ps us ∧ Same H H1 ∧ ∃ x y, σ = [some (.str z), some (.ref l), x, y])
    ⟨[], [], ts, hlex, rfl, (by rw [upd_ne (Ne.symm hql), upd_same]; rfl), upd_same, .nil, Same.mut (Same.new nl) nqH, _, _, rfl⟩ ?_ ?_ ?_
  · rintro i σ H1 _ ⟨ps, us, rest, _, _, _, h, _⟩
    exact SqL.of h
  · rintro i x σ H1 H2 hi ⟨ps, us, rest, h1, h2, h3, h4, h5, h6, x1, x2, rfl⟩ ⟨t, v1, v2, rfl, nt, rfl, e1, e2⟩
    cases e1
    dsimp only at e2
    rw [List.getElem?_map] at e2
    cases er : (TL.spl [10] 0 [] z.cps.toList)[i]? with
    | none => rw [er] at e2; cases e2
    | some r =>
      rw [er] at e2
      cases e2
      obtain ⟨us1, vs1, g1, g2, rfl⟩ := lexRows_at h1 er
      have hr1 := hrl r (List.mem_of_getElem? er)
      refine r_gTup (SqT.of upd_same) rfl ?_
      repeat walk_at "st"
      have s1 : Same H1 (upd H1 t (.tup [.int (i : Nat), (V.str ∘ SX.S) r])) := Same.new nt
      refine r_tyL (SqL.of (s1 _ _ h3)) ?_
      repeat walk_at "st"
      refine ⟨SX.S r, i, us1, rfl, by rw [SX.S_len]; omega, g1, fun H3 p3 ps3 s3 n3 hp3 ht3 => ?_⟩
      have e2 : us.length + us1.length ≤ 90000 := by
        rw [← h2, List.length_append, List.length_append] at hts; omega
      repeat walk_at "st"
      refine r_ext (s3 _ _ (s1 _ _ h3)) hp3 (by rw [List.length_map, List.length_map, PySem.Paired.length h5, PySem.Paired.length ht3]; exact Nat.le_trans e2 (by decide)) ?_
      repeat walk_at "st"
      have hl3 := s3 _ _ (s1 _ _ h3)
      refine ⟨ps ++ ps3, us ++ us1, vs1, g2, by rw [List.append_assoc]; exact h2, by rw [upd_same, List.map_append], ?_, ?_, Same.mut ((h6.trans s1).trans s3) nl, _, _, rfl⟩
      · rw [upd_ne hql]; exact s3 _ _ (s1 _ _ h4)
      · exact Paired.mapP (Paired.app ((h5.mono s1).mono s3) ht3) fun _ _ h => upd_lstTk hl3 h
  · rintro σ H1 ⟨ps, us, rest, h1, h2, h3, h4, h5, h6, x1, x2, rfl⟩
    repeat walk_at "st"
    rw [List.length_map, List.drop_length] at h1
    have er : rest = [] := (Option.some.inj h1).symm
    subst er
    rw [List.append_nil] at h2
    subst h2
    exact k _ l ps h6 nl h3 h5
end
end Sw

/-! The parser's defs. -/
namespace Sw
open PySem L2
def Keep (p : Addr) (H H' : Hp) : Prop := ∀ b o, H b = some o → b ≠ p → H' b = some o
theorem Keep.refl {p : Addr} {H : Hp} : Keep p H H := fun _ _ e _ => e
theorem Keep.trans {p : Addr} {H H1 H2 : Hp} (a : Keep p H H1) (b : Keep p H1 H2) : Keep p H H2 := fun c o e n => b c o (a c o e n) n
theorem Keep.same {p : Addr} {H H1 : Hp} (a : Same H H1) : Keep p H H1 := fun c o e _ => a c o e
def rdFs (tl : Addr) (lines : Int) (at' : Nat) : List (Str × V) := [("tokens", .ref tl), ("lines", .int lines), ("at", .int at')]
/-- a Reader with these tokens ahead -/
def RdAt (a : Adr) (H : Hp) (p tl : Addr) (rem : List Tk) : Prop := ∃ dx lines ps1 ps2, H p = some (.ins a.cReader dx (rdFs tl lines ps1.length)) ∧ H tl = some (.lst ((ps1 ++ ps2).map V.ref)) ∧ TksAt a H ps2 rem ∧ (ps1 ++ ps2).length ≤ 90000
def stFs (wq pl : Addr) : List (Str × V) := [("word", .ref wq), ("parts", .ref pl)]
def StAt (a : Adr) (H : Hp) (q pl : Addr) (st : Stm) : Prop := ∃ dx wq ps, H q = some (.ins a.cStatement dx (stFs wq pl)) ∧ TkAt a H wq st.word ∧ H pl = some (.lst (ps.map V.ref)) ∧ TksAt a H ps st.parts
theorem StAt.mono {a : Adr} {H H' : Hp} {p pl : Addr} {t : Stm} (s : Same H H') (h : StAt a H p pl t) : StAt a H' p pl t := by
  obtain ⟨dx, wq, ps, h1, h2, h3, h4⟩ := h
  exact ⟨dx, wq, ps, s _ _ h1, h2.mono s, s _ _ h3, h4.mono s⟩
theorem kt_ne : ¬ (("kind" : Str) = "tokens") := by decide +kernel
theorem wt_ne : ¬ (("word" : Str) = "tokens") := by decide +kernel
theorem tk_rd {a : Adr} {H : Hp} {p q tl : Addr} {t : Tk} {rem : List Tk} (h : TkAt a H q t) (r : RdAt a H p tl rem) : q ≠ p := by
  obtain ⟨dx, e⟩ := h
  obtain ⟨_, _, _, _, e2, _⟩ := r
  exact ne_of e e2 fun z => by
    injection z with _ _ z
    unfold tkFs rdFs at z
    injection z with z _
    exact kt_ne (Prod.mk.inj z).1
theorem TkAt.keep {a : Adr} {H H' : Hp} {p q tl : Addr} {t : Tk} {rem : List Tk} (r : RdAt a H p tl rem) (k : Keep p H H') (h : TkAt a H q t) : TkAt a H' q t := by
  have n := tk_rd h r
  obtain ⟨dx, e⟩ := h
  exact ⟨dx, k _ _ e n⟩
theorem TksAt.keep {a : Adr} {H H' : Hp} {p tl : Addr} {ps : List Addr} {ts : List Tk} {rem : List Tk} (r : RdAt a H p tl rem) (k : Keep p H H') (h : TksAt a H ps ts) : TksAt a H' ps ts := Paired.mapP h fun _ _ => TkAt.keep r k
theorem lst_rd {a : Adr} {H : Hp} {p q tl : Addr} {xs : List V} {rem : List Tk} (h : H q = some (.lst xs)) (r : RdAt a H p tl rem) : q ≠ p := by
  obtain ⟨_, _, _, _, e2, _⟩ := r
  exact ne_of h e2 fun z => by cases z
theorem StAt.keep {a : Adr} {H H' : Hp} {p q pl tl : Addr} {t : Stm} {rem : List Tk} (r : RdAt a H p tl rem) (k : Keep p H H') (h : StAt a H q pl t) : StAt a H' q pl t := by
  obtain ⟨dx, wq, ps, h1, h2, h3, h4⟩ := h
  refine ⟨dx, wq, ps, k _ _ h1 ?_, h2.keep r k, k _ _ h3 (lst_rd h3 r), h4.keep r k⟩
  obtain ⟨_, _, _, _, e2, _⟩ := r
  exact ne_of h1 e2 fun z => by
    injection z with _ _ z
    unfold stFs rdFs at z
    injection z with z _
    exact wt_ne (Prod.mk.inj z).1
/-- a method with *args -/
theorem Fun_okS {P : Program} {w : World} {K : PySem.W.Frag} {mg : Str → Option Value} {base : Heap} {x qual : Str} {st : Stmt} {f : Addr} {fd : FuncData} {N ps : List Str} {pvn : Str} {k : Nat} {sp : Sp} (F : Fun K x qual st f fd) (S : FnScope N (ps ++ [pvn]) (defScope st))
    (hb : ∀ (kV doc pm : Value) (an : Option Addr) (cdv ct : Value) (us rest : List Value), us.length = ps.length → bindArgs (PySem.W.fnOf x qual (defArgs st) (defBody st) (defScope st) .none kV doc pm an cdv ct) ⟨us ++ rest, []⟩ = (newTuple rest >>= fun t => pure (ps.zip us ++ [(pvn, t)])))
    (hbody : ∀ (cdv : Value) (A : Around) (outer : List Env) (s : Shared) (H : Hp) (vs : List V) (Q : VK) (E : XK), Room k (A.deeper (PyProof.Rows.envOfC qual (defScope st) s.heap.objs.size f cdv)) → sp vs H Q E →
      ∃ t, PSs (cxOf CX0 P w K mg base N qual (defScope st) f cdv A outer s H E).nox (defBody st) t ∧ t { nx := fun _ H' => Q .non H', rt := Q } (L2.start N vs) H) :
    FnR P w K mg base CX0 (k + 1) f (fun vs H Q E => ∃ ws rest, vs = ws ++ rest ∧ ws.length = ps.length ∧ rest.length ≤ sizeLine ∧ ∀ p, H p = Option.none → sp (ws ++ [V.ref p]) (upd H p (.tup rest)) Q E) := by
  obtain ⟨oc, od, kV, doc, pm, an,
    cdv, ct, osl, rfl, lk, hcd⟩ := F.ex
  refine StX.fn_star lk hcd S StX.cxUp_none (hb kV doc pm an cdv ct) fun A outer s H vs Q E hr hsp => ?_
  obtain ⟨t, h, q⟩ :=
    hbody cdv A outer s H vs Q E hr hsp
  exact ⟨t, h.nox, q⟩
section
variable {X : Cx} {CX : CXT} {k : Nat} {f C : Addr} {sp : Sp} {E : XK} {m : Str} {pos apos : Pos} {e o : Expr} {es : List Expr} {ta : TE} {t : TA}
/-- the method m of an instance of C, called: its own star takes what is over -/
def tMethR (C : Addr) (m : Str) (sp : Sp) (E : XK) (ta : TE) (t : TA) : TE :=
  fun σ H Q => ta σ H fun x H1 => ∃ a dx fs,
    x = .ref a ∧ H1 a = some (.ins C dx fs) ∧ fs.lookup m = none ∧
    t σ H1 fun vs H2 => sp (x :: vs) H2 Q E
theorem pe_methR {pl : Sem Bool} (he : PE X o ta) (c : Cls X.K C) (hm : Meth X.K C m f) (F : FnR X.prog X.w X.K X.mg X.base CX k f sp) (hr : Room k X.A) (hx : Passes CX X E) (ha : PA X (e :: es) t)
    (hst : starEach (e :: es) X.env
      = (false, eval e X.env) :: starEach es X.env := by rfl)
    (hpl : (backTo pos (starEach es X.env)).any (·.1)
      = false := by rfl)
    (ht : eval (.Call (.Attribute o m apos) (e :: es) [] pos) X.env
      = (do
      let v ← eval o X.env
      standAt apos.atName
      let (g, one) ← holding [v] (getMethod v m pl)
      callWith pos g one (backTo pos (starEach (e :: es) X.env))
        (backToKw pos (keywordEach [] X.env))) := by rfl) :
    PE X (.Call (.Attribute o m apos) (e :: es) [] pos)
      (tMethR C m sp E ta t) := by
  constructor
  intro pins s σ H Q I h
  have go := he.run pins s σ H _ I h
  refine PySem.W.methodCall_KW (pl := pl) (thn go
    fun u s1 ⟨x, H1, I1, rx, a, dx, fs, ex, ea, l, q⟩ => ?_) ht
  cases ex
  cases (show u = Value.ref a from rx)
  refine getmeth_ok I1 ea c
    hm l ?_
  have arg := ha.run pos pins s1 σ H1 _ I1 q
  refine PySem.W.callWith_K (first := [.ref a]) (h₀ := X.base)
    I.ok.mod.kin hm.kp (thn arg
      fun us s2 ⟨vs, H2, I2, r, q2⟩ => ⟨I2.kIn, ?_⟩) hst hpl
  refine wpAny_call (codeAny_mono (run_fnR F hr hx I2 (us := .ref a :: us) (vs := V.ref a :: vs) (.cons (show RelV (V.ref a) (Value.ref a) from rfl) r) q2) fun r s' hq => ?_)
  cases r with
  | error e => exact hq
  | ok fl =>
    cases fl with
    | ret u => exact hq
    | next => exact False.elim hq
    | brk => exact False.elim hq
    | cont => exact False.elim hq
theorem r_methR {σ : St} {H : Hp} {Q : VK} (h : ta σ H fun x H1 => ∃ a dx fs, x = .ref a ∧ H1 a = some (.ins C dx fs) ∧ fs.lookup m = none ∧ t σ H1 fun vs H2 => sp (x :: vs) H2 Q E) : tMethR C m sp E ta t σ H Q := h
end
theorem r_methOf {H : Hp} {m : Str} {p C dx : Addr} {fs : List (Str × V)} {R : Prop} (h1 : H p = some (.ins C dx fs)) (h2 : fs.lookup m = none) (h : R) : ∃ a dx fs, V.ref p = .ref a ∧ H a = some (.ins C dx fs) ∧ fs.lookup m = none ∧ R := ⟨p, dx, fs, rfl, h1, h2, h⟩

theorem upd3 {R : Hp → Prop} {H : Hp} {p : Addr} {o1 o2 o3 : HO} (h : ∀ H', H' p = some o3 → Keep p H H' → R H') : R (upd (upd (upd H p o1) p o2) p o3) :=
  h _ upd_same fun b o e n => upd_kept (upd_kept (upd_kept e n) n) n
def sp_Statement_init (K : PySem.W.Frag) (a : Adr) : Sp := fun vs H Q _ => ∃ (p dx wq pl : Addr), vs = [.ref p, .ref wq, .ref pl] ∧ H p = some (.ins a.cStatement dx []) ∧
  ∀ H', H' p = some (.ins a.cStatement dx (stFs wq pl)) → Keep p H H' → Q .non H'
def TokPre (z : Str) (ts : List Tk) : Prop := z.length ≤ 90000 ∧ ts.length ≤ 90000 ∧ (∀ r ∈ TL.spl [10] 0 [] z.cps.toList, r.length ≤ 90000) ∧ lexRows 0 (TL.spl [10] 0 [] z.cps.toList) = some ts
def sp_Reader_init (K : PySem.W.Frag) (a : Adr) : Sp := fun vs H Q _ => ∃ (p dx : Addr) (z : Str) (ts : List Tk), vs = [.ref p, .str z] ∧ H p = some (.ins a.cReader dx []) ∧ TokPre z ts ∧
  ∀ H' tl, RdAt a H' p tl ts → Keep p H H' → Q .non H'
def sp_Reader_ended (K : PySem.W.Frag) (a : Adr) : Sp := fun vs H Q _ => ∃ (p tl : Addr) (rem : List Tk), vs = [.ref p] ∧ RdAt a H p tl rem ∧ Q (.bl rem.isEmpty) H
def sp_Reader_sees (K : PySem.W.Frag) (a : Adr) : Sp := fun vs H Q _ => ∃ (p tl : Addr) (rem : List Tk) (k : Str), vs = [.ref p, .str k] ∧ RdAt a H p tl rem ∧ Q (.bl (rem.head?.any fun t => decide (t.kind = k))) H
def sp_Reader_take (K : PySem.W.Frag) (a : Adr) : Sp := fun vs H Q _ => ∃ (p tl tp : Addr) (ks : List Str) (t : Tk) (r : List Tk), vs = [.ref p, .ref tp] ∧ H tp = some (.tup (ks.map V.str)) ∧ RdAt a H p tl (t :: r) ∧ t.kind ∈ ks ∧
  ∀ H' q, TkAt a H' q t → RdAt a H' p tl r → Keep p H H' → Q (.ref q) H'
section
variable {P : Program} {w : World} {K : PySem.W.Frag} {mg : Str → Option Value} {base : Heap} {a : Adr}
theorem ok_Statement_init {f : Addr} {fd : FuncData} (F : Fun K "__init__" "Statement.__init__" s_Statement_init f fd) (T : Txt w K mg a)
     :
    FnOk P w K mg base CX0 1 f fd ps_Statement_init (sp_Statement_init K a) := by
  refine F.ok sc_Statement_init (fun vs H Q E h => ?_) (fun cdv A outer s H vs Q E hr h => ?_)
  · obtain ⟨p, dx, wq, pl, rfl, hp, k⟩ := h
    rfl
  obtain ⟨p, dx, wq, pl, rfl, hp, k⟩ := h
  have hu := hu_of hr
  refine ⟨_, 
    (pss_cons (ps_fld (pv 0) (pv 1) rfl) 
    (pss_one (ps_fld (pv 0) (pv 2) rfl))), ?_⟩
  repeat walk_at "st"
  refine r_sfldOf hp T.cl_Statement T.n_Statement_word (by decide) ?_
  repeat walk_at "st"
  refine r_sfldOf upd_same T.cl_Statement T.n_Statement_parts (Nat.lt_of_le_of_lt (putF_len (n := 0) (Nat.le_refl _)) (by decide)) ?_
  have e : putF "parts" (.ref pl) (putF "word" (.ref wq) []) = stFs wq pl := by
    simp only [putF, if_neg (show ¬ (("word" : Str) = "parts") by decide +kernel)]
    rfl
  rw [e]
  exact k _ upd_same fun b o e n => upd_kept (upd_kept e n) n
theorem ok_Reader_init {f : Addr} {fd : FuncData} (F : Fun K "__init__" "Reader.__init__" s_Reader_init f fd) (T : Txt w K mg a)
    {f_tokens_of : Addr} {fd_tokens_of : FuncData} (G_tokens_of : Cal P w K mg base "tokens_of" 4 f_tokens_of fd_tokens_of ps_tokens_of (sp_tokens_of K a)) :
    FnOk P w K mg base CX0 5 f fd ps_Reader_init (sp_Reader_init K a) := by
  refine F.ok sc_Reader_init (fun vs H Q E h => ?_) (fun cdv A outer s H vs Q E hr h => ?_)
  · obtain ⟨p, dx, z, ts, rfl, hp, hpre, k⟩ := h
    rfl
  obtain ⟨p, dx, z, ts, rfl, hp, hpre, k⟩ := h
  have hu := hu_of hr
  refine ⟨_, 
    (pss_cons (ps_fld (pv 0) (pe_call G_tokens_of.ok (hr.mono (by decide)) rfl G_tokens_of.mg' G_tokens_of.kp G_tokens_of.b .nil pass0 (pa_cons (pv 1) pa_nil)) rfl) 
    (pss_cons (ps_fld (pv 0) (pe_op op_add (pe_bm PySem.F.plainAttrs_str PySem.F.slot_str_count PySem.F.type_str_count mt_count (pv 1) (pa_cons pe_str pa_nil)) pe_int) rfl) 
    (pss_one (ps_fld (pv 0) pe_int rfl)))), ?_⟩
  repeat walk_at "st"
  refine ⟨z, ts, rfl, hpre.1, hpre.2.1, hpre.2.2.1, hpre.2.2.2, fun H1 tl ps s1 ntl htl hts => ?_⟩
  repeat walk_at "st"
  have hp1 := s1 _ _ hp
  have nlp : tl ≠ p := ne_of htl hp1 (by intro z; cases z)
  refine r_sfldOf hp1 T.cl_Reader T.n_Reader_tokens (by decide) ?_
  repeat walk_at "st"
  refine ⟨z, _, rfl, rfl, ?_⟩
  repeat walk_at "st"
  refine r_sfldOf upd_same T.cl_Reader T.n_Reader_lines (Nat.lt_of_le_of_lt (putF_len (n := 0) (Nat.le_refl _)) (by decide)) ?_
  repeat walk_at "st"
  refine r_sfldOf upd_same T.cl_Reader T.n_Reader_at (Nat.lt_of_le_of_lt (putF_len (n := 1) (putF_len (n := 0) (Nat.le_refl _))) (by decide)) ?_
  have e : ∀ n : Int, putF "at" (.int 0) (putF "lines" (.int n) (putF "tokens" (.ref tl) [])) = rdFs tl n 0 := fun n => by
    simp only [putF, if_neg (show ¬ (("tokens" : Str) = "lines") by decide +kernel), if_neg (show ¬ (("tokens" : Str) = "at") by decide +kernel), if_neg (show ¬ (("lines" : Str) = "at") by decide +kernel)]
    rfl
  rw [e]
  refine upd3 (R := fun H' => Q .non H') fun H2 hp2 kp => ?_
  refine k _ tl ⟨dx, _, [], ps, hp2, kp _ _ htl nlp, Paired.mapP hts fun q t h => ?_, ?_⟩ ((Keep.same s1).trans kp)
  · obtain ⟨d2, e⟩ := h
    exact ⟨d2, kp _ _ e (ne_of e hp1 fun z => by injection z with _ _ z; unfold tkFs at z; cases z)⟩
  · show ps.length ≤ 90000
    rw [PySem.Paired.length hts]; exact hpre.2.1
theorem at_get {ps1 ps2 : List Addr} {p : Addr} (r : List Addr) (h : ps2 = p :: r) : atI ((ps1 ++ ps2).map V.ref) ((ps1.length : Nat) : Int) = some (.ref p) := by
  subst h
  refine atI_nat ?_
  simp
theorem ok_Reader_ended {f : Addr} {fd : FuncData} (F : Fun K "ended" "Reader.ended" s_Reader_ended f fd) (T : Txt w K mg a)
     :
    FnOk P w K mg base CX0 1 f fd ps_Reader_ended (sp_Reader_ended K a) := by
  refine F.ok sc_Reader_ended (fun vs H Q E h => ?_) (fun cdv A outer s H vs Q E hr h => ?_)
  · obtain ⟨p, tl, rem, rfl, ⟨dx, lines, ps1, ps2, hp, htl, hts, hln⟩, k⟩ := h
    rfl
  obtain ⟨p, tl, rem, rfl, ⟨dx, lines, ps1, ps2, hp, htl, hts, hln⟩, k⟩ := h
  have hu := hu_of hr
  refine ⟨_, 
    (pss_one (ps_ret (pe_cmpR op_eq (pe_fld (pv 0) rfl) (pe_callB call_len_seq (by rfl) T.n_len PySem.boot_len (pa_cons (pe_fld (pv 0) rfl) pa_nil)) (nomark _)))), ?_⟩
  repeat walk_at "st"
  refine r_fldOf hp T.cl_Reader T.n_Reader_at rfl ?_
  repeat walk_at "st"
  refine r_fldOf hp T.cl_Reader T.n_Reader_tokens rfl ?_
  repeat walk_at "st"
  refine r_lenL (.inl (SqL.of htl)) ?_
  repeat walk_at "st"
  have e : decide (V.int (ps1.length : Nat) = V.int (((ps1 ++ ps2).map V.ref).length : Nat)) = rem.isEmpty := by
    rw [dec_int, List.length_map, List.length_append, PySem.Paired.length hts]
    cases rem with
    | nil => simp
    | cons t r => simp; omega
  rw [e]
  exact k
theorem neg_and {b : Bool} {A B : Prop} (h1 : b = false → A) (h2 : b = true → B) : if (!b) = true then A else B := by
  cases b with
  | false => exact iteT (h1 rfl)
  | true => exact iteF (h2 rfl)
theorem ok_Reader_sees {f : Addr} {fd : FuncData} (F : Fun K "sees" "Reader.sees" s_Reader_sees f fd) (T : Txt w K mg a)
    {f_Reader_ended : Addr} {fd_Reader_ended : FuncData} (ME_Reader_ended : Meth K a.cReader "ended" f_Reader_ended) (G_Reader_ended : CalM P w K mg base 1 f_Reader_ended fd_Reader_ended ps_Reader_ended (sp_Reader_ended K a)) :
    FnOk P w K mg base CX0 2 f fd ps_Reader_sees (sp_Reader_sees K a) := by
  refine F.ok sc_Reader_sees (fun vs H Q E h => ?_) (fun cdv A outer s H vs Q E hr h => ?_)
  · obtain ⟨p, tl, rem, kk, rfl, R, k⟩ := h
    rfl
  obtain ⟨p, tl, rem, kk, rfl, R, k⟩ := h
  have hu := hu_of hr
  refine ⟨_, 
    (pss_one (ps_ret (pe_and (pe_not (pe_meth0 (pv 0) T.cl_Reader ME_Reader_ended G_Reader_ended.ok (hr.mono (by decide)) G_Reader_ended.b .nil pass0)) (pe_one (pe_cmpR op_eq (pe_fld (pe_ix ix_list (pe_fld (pv 0) rfl) (pe_fld (pv 0) rfl) (fun _ _ => rfl)) rfl) (pv 1) (nomark _)))))), ?_⟩
  have R' := R
  obtain ⟨dx, lines, ps1, ps2, hp, htl, hts, hln⟩ := R
  refine r_ret ?_
  refine r_and2V (!rem.isEmpty) (rem.head?.any fun t => decide (t.kind = kk)) (fun Q q => ?_) (fun hb Q q => ?_) ?_
  · repeat walk_at "st"
    refine r_methOf hp rfl ?_
    repeat walk_at "st"
    refine ⟨p, tl, rem, rfl, R', ?_⟩
    repeat walk_at "st"
    exact q
  · repeat walk_at "st"
    cases hts with
    | nil => cases hb
    | @cons q t ps3 rem' h1 h2 =>
      obtain ⟨d2, e2⟩ := h1
      refine r_fldOf hp T.cl_Reader T.n_Reader_tokens rfl ?_
      repeat walk_at "st"
      refine r_fldOf hp T.cl_Reader T.n_Reader_at rfl ?_
      repeat walk_at "st"
      refine r_ixL (SqL.of htl) (at_get _ rfl) ?_
      refine r_fldOf e2 T.cl_Token T.n_Token_kind rfl ?_
      repeat walk_at "st"
      rw [dec_str]
      exact q
  · cases rem with
    | nil => exact k
    | cons t r => exact k
def sp_Reader_take_r (K : PySem.W.Frag) (a : Adr) : Sp := fun vs H Q _ => ∃ (p tl : Addr) (ks : List Str) (t : Tk) (r : List Tk), vs = .ref p :: ks.map V.str ∧ ks.length ≤ 10 ∧ RdAt a H p tl (t :: r) ∧ t.kind ∈ ks ∧
  ∀ H' q, TkAt a H' q t → RdAt a H' p tl r → Keep p H H' → Q (.ref q) H'
theorem RdAt.mono {H H' : Hp} {p tl : Addr} {r : List Tk} (s : Same H H') (h : RdAt a H p tl r) : RdAt a H' p tl r := by
  obtain ⟨dx, l, ps1, ps2, h1, h2, h3, h4⟩ := h
  exact ⟨dx, l, ps1, ps2, s _ _ h1, s _ _ h2, h3.mono s, h4⟩
theorem sp_Reader_take_of {vs : List V} {H : Hp} {Q : VK} {E : XK} (h : sp_Reader_take_r K a vs H Q E) : ∃ ws rest, vs = ws ++ rest ∧ ws.length = ["self"].length ∧ rest.length ≤ sizeLine ∧ ∀ p, H p = Option.none → sp_Reader_take K a (ws ++ [V.ref p]) (upd H p (.tup rest)) Q E := by
  obtain ⟨p, tl, ks, t, r, rfl, hks, R, hk, k⟩ := h
  refine ⟨[.ref p], ks.map V.str, rfl, rfl, by rw [List.length_map]; exact Nat.le_trans hks (by decide), fun tp nt => ?_⟩
  have s1 : Same H (upd H tp (.tup (ks.map V.str))) := Same.new nt
  exact ⟨p, tl, tp, ks, t, r, rfl, upd_same, R.mono s1, hk, fun H' q h1 h2 h3 => k H' q h1 h2 ((Keep.same s1).trans h3)⟩
theorem ok_Reader_take {f : Addr} {fd : FuncData} (F : Fun K "take" "Reader.take" s_Reader_take f fd) (T : Txt w K mg a)
    {f_Reader_ended : Addr} {fd_Reader_ended : FuncData} (ME_Reader_ended : Meth K a.cReader "ended" f_Reader_ended) (G_Reader_ended : CalM P w K mg base 1 f_Reader_ended fd_Reader_ended ps_Reader_ended (sp_Reader_ended K a)) :
    FnR P w K mg base CX0 2 f (sp_Reader_take_r K a) := by
  refine FnR.imp (Fun_okS (sp := sp_Reader_take K a) (ps := ["self"]) (pvn := "kinds") F sc_Reader_take (fun _ _ _ _ _ _ => StX.bind_star1 (B := fun l => bindArgs _ ⟨l, []⟩) (fun _ => rfl) (fun _ _ _ => rfl)) fun cdv A outer s H vs Q E hr h => ?_) fun vs H Q E h => ?_
  rotate_left
  · exact sp_Reader_take_of h
  obtain ⟨p, tl, tp, ks, t, r, rfl, htp, R, hk, k⟩ := h
  have hu := hu_of hr
  refine ⟨_, 
    (pss_cons (ps_if (pt_val (pe_meth0 (pv 0) T.cl_Reader ME_Reader_ended G_Reader_ended.ok (hr.mono (by decide)) G_Reader_ended.b .nil pass0)) 
      (pss_one ps_never) pss_nil) 
    (pss_cons (ps_set (i := 2) sc_Reader_take.nd rfl (.inl rfl) (pe_ix ix_list (pe_fld (pv 0) rfl) (pe_fld (pv 0) rfl) (fun _ _ => rfl))) 
    (pss_cons (ps_if (pt_cmpR op_notIn_seq (pe_fld (pv 2) rfl) (pv 1) rfl) 
      (pss_one ps_never) pss_nil) 
    (pss_cons (ps_fldaug (pv 0) pe_int in_add) 
    (pss_one (ps_ret (pv 2))))))), ?_⟩
  have R' := R
  obtain ⟨dx, lines, ps1, ps2, hp, htl, hts, hln⟩ := R
  repeat walk_at "st"
  refine r_methOf hp rfl ?_
  repeat walk_at "st"
  refine ⟨p, tl, t :: r, rfl, R', ?_⟩
  repeat walk_at "st"
  refine iteF ?_
  repeat walk_at "st"
  cases hts with
  | @cons q _ ps3 _ h1 h2 =>
    have h1' := h1
    obtain ⟨d2, e2⟩ := h1
    refine r_fldOf hp T.cl_Reader T.n_Reader_tokens rfl ?_
    repeat walk_at "st"
    refine r_fldOf hp T.cl_Reader T.n_Reader_at rfl ?_
    repeat walk_at "st"
    refine r_ixL (SqL.of htl) (at_get _ rfl) ?_
    repeat walk_at "st"
    refine r_fldOf e2 T.cl_Token T.n_Token_kind rfl ?_
    repeat walk_at "st"
    refine r_inSeq (xs := ks.map V.str) (.inr (SqT.of htp)) rfl (flat_strs' _) ?_
    rw [inV_strs, decide_eq_true hk]
    repeat walk_at "st"
    refine iteF ?_
    repeat walk_at "st"
    refine r_fldAug ?_
    repeat walk_at "st"
    refine ⟨p, _, _, _, _, rfl, hp, T.cl_Reader, T.n_Reader_at, rfl, ?_⟩
    repeat walk_at "st"
    refine r_rAdd ⟨dx, _, hp, (by show 3 < 1000; decide), ?_⟩
    have e : putF "at" (.int ((ps1.length : Nat) + 1)) (rdFs tl lines ps1.length) = rdFs tl lines (ps1 ++ [q]).length := by
      unfold rdFs
      simp only [putF, if_neg (show ¬ (("tokens" : Str) = "at") by decide +kernel), if_neg (show ¬ (("lines" : Str) = "at") by decide +kernel), if_true, List.length_append]
      rfl
    rw [e]
    repeat walk_at "st"
    have kp : Keep p H (upd H p (.ins a.cReader dx (rdFs tl lines (ps1 ++ [q]).length))) := fun b o e n => upd_kept e n
    refine k _ q (h1'.keep R' kp) ⟨dx, lines, ps1 ++ [q], ps3, upd_same, ?_, TksAt.keep R' kp h2, ?_⟩ kp
    · rw [List.append_assoc]; exact kp _ _ htl (lst_rd htl R')
    · rw [List.append_assoc]; exact hln
end
end Sw

/-! The parser's defs, further. -/
namespace Sw
open PySem L2
theorem r_rd {a : Adr} {H : Hp} {m : Str} {p tl : Addr} {rem : List Tk} {Rest : Prop} (R : RdAt a H p tl rem) (hm : ∀ tl l n, (rdFs tl l n).lookup m = none) (h : Rest) : ∃ a' dx fs, V.ref p = .ref a' ∧ H a' = some (.ins a.cReader dx fs) ∧ fs.lookup m = none ∧ Rest := by
  obtain ⟨dx, l, ps1, ps2, h1, _⟩ := R
  exact ⟨p, dx, _, rfl, h1, hm _ _ _, h⟩
theorem rd_take (tl : Addr) (l : Int) (n : Nat) : (rdFs tl l n).lookup ("take" : Str) = none := rfl
theorem rd_sees (tl : Addr) (l : Int) (n : Nat) : (rdFs tl l n).lookup ("sees" : Str) = none := rfl
theorem rd_ended (tl : Addr) (l : Int) (n : Nat) : (rdFs tl l n).lookup ("ended" : Str) = none := rfl
theorem st_fin {a : Adr} {H H1 : Hp} {pl x dx wq : Addr} {ps : List Addr} {ts : List Tk} {w : Tk} (npl : H pl = none) (nx : (upd H pl (.lst (ps.map V.ref))) x = none) (ndx : (upd H pl (.lst (ps.map V.ref))) dx = none)
    (hq : H1 x = some (.ins a.cStatement dx (stFs wq pl))) (kp : Keep x (upd (upd (upd H pl (.lst (ps.map V.ref))) dx (.own x)) x (.ins a.cStatement dx [])) H1) (hw : TkAt a H wq w) (hps : TksAt a H ps ts) : StAt a H1 x pl ⟨w, ts⟩ ∧ Same H H1 := by
  have s1 : Same H (upd H pl (.lst (ps.map V.ref))) := Same.new npl
  have s2 : Same (upd H pl (.lst (ps.map V.ref))) H1 := Same.made nx ndx kp
  exact ⟨⟨dx, wq, ps, hq, hw.mono (s1.trans s2), s2 _ _ upd_same, hps.mono (s1.trans s2)⟩, s1.trans s2⟩
theorem Keep.free {a : Adr} {p tl b : Addr} {rem : List Tk} {H H' : Hp} (k : Keep p H H') (R : RdAt a H' p tl rem) (h : H' b = none) : H b = none := by
  obtain ⟨_, _, _, _, e, _⟩ := R
  have n : b ≠ p := fun z => by rw [z, e] at h; cases h
  cases q : H b with
  | none => rfl
  | some o =>
    rw [k b o q n] at h
    cases h
def spRead (a : Adr) (f : List Tk → Option (Stm × List Tk)) : Sp := fun vs H Q _ => ∃ (p tl : Addr) (rem : List Tk) (st : Stm) (rem' : List Tk), vs = [.ref p] ∧ RdAt a H p tl rem ∧ f rem = some (st, rem') ∧
  ∀ H' q pl, H pl = none → StAt a H' q pl st → RdAt a H' p tl rem' → Keep p H H' → Q (.ref q) H'
def sp_read_corridor (K : PySem.W.Frag) (a : Adr) : Sp := spRead a pCorridor
def sp_read_robot (K : PySem.W.Frag) (a : Adr) : Sp := spRead a pRobot
def sp_read_put (K : PySem.W.Frag) (a : Adr) : Sp := spRead a pPut
def sp_read_rule (K : PySem.W.Frag) (a : Adr) : Sp := spRead a pRule
def sp_read_statement (K : PySem.W.Frag) (a : Adr) : Sp := spRead a pStatement
def sp_read_names (K : PySem.W.Frag) (a : Adr) : Sp := fun vs H Q _ => ∃ (p tl : Addr) (kw : Str) (rem : List Tk) (st : Stm) (rem' : List Tk), vs = [.ref p, .str kw] ∧ RdAt a H p tl rem ∧ pNames kw rem = some (st, rem') ∧
  ∀ H' q pl, H pl = none → StAt a H' q pl st → RdAt a H' p tl rem' → Keep p H H' → Q (.ref q) H'
section
variable {P : Program} {w : World} {K : PySem.W.Frag} {mg : Str → Option Value} {base : Heap} {a : Adr}
theorem ok_read_corridor {f : Addr} {fd : FuncData} (F : Fun K "read_corridor" "read_corridor" s_read_corridor f fd) (T : Txt w K mg a)
    {f_Reader_take : Addr} (ME_Reader_take : Meth K a.cReader "take" f_Reader_take) (G_Reader_take : FnR P w K mg base CX0 2 f_Reader_take (sp_Reader_take_r K a))
    {f_Statement_init : Addr} {fd_Statement_init : FuncData} (M_Statement : Mk K a.cStatement f_Statement_init) (G_Statement_init : CalM P w K mg base 1 f_Statement_init fd_Statement_init ps_Statement_init (sp_Statement_init K a)) :
    FnOk P w K mg base CX0 3 f fd ps_read_corridor (sp_read_corridor K a) := by
  refine F.ok sc_read_corridor (fun vs H Q E h => ?_) (fun cdv A outer s H vs Q E hr h => ?_)
  · obtain ⟨p, tl, rem, st, rem', rfl, R, hp, k⟩ := h
    rfl
  obtain ⟨p, tl, rem, st, rem', rfl, R, hp, k⟩ := h
  have hu := hu_of hr
  refine ⟨_, 
    (pss_cons (ps_set (i := 1) sc_read_corridor.nd rfl (.inl rfl) (pe_methR (pv 0) T.cl_Reader ME_Reader_take G_Reader_take (hr.mono (by decide)) pass0 (pa_cons pe_str pa_nil))) 
    (pss_cons (ps_set (i := 2) sc_read_corridor.nd rfl (.inl rfl) (pe_methR (pv 0) T.cl_Reader ME_Reader_take G_Reader_take (hr.mono (by decide)) pass0 (pa_cons pe_str pa_nil))) 
    (pss_cons (ps_expr (pe_methR (pv 0) T.cl_Reader ME_Reader_take G_Reader_take (hr.mono (by decide)) pass0 (pa_cons pe_str pa_nil))) 
    (pss_one (ps_ret (pe_make M_Statement G_Statement_init.ok (hr.mono (by decide)) rfl T.c_Statement G_Statement_init.b .nil pass0 (pa_cons (pv 1) (pa_cons (pe_lst (pa_cons (pv 2) pa_nil)) pa_nil)))))))), ?_⟩
  unfold pCorridor at hp
  split at hp
  next w1 n1 e1 r =>
    split at hp
    next hk =>
      obtain ⟨hw1, hn1, he1⟩ := hk
      cases hp
      repeat walk_at "st"
      refine r_methR ?_
      repeat walk_at "st"
      refine r_rd R rd_take ?_
      repeat walk_at "st"
      refine ⟨p, tl, ["corridor"], w1, _, rfl, by decide, R, by simp [hw1], fun H1 q1 t1 R1 k1 => ?_⟩
      repeat walk_at "st"
      refine r_methR ?_
      repeat walk_at "st"
      refine r_rd R1 rd_take ?_
      repeat walk_at "st"
      refine ⟨p, tl, ["number"], n1, _, rfl, by decide, R1, by simp [hn1], fun H2 q2 t2 R2 k2 => ?_⟩
      repeat walk_at "st"
      refine r_methR ?_
      repeat walk_at "st"
      refine r_rd R2 rd_take ?_
      repeat walk_at "st"
      refine ⟨p, tl, [";"], e1, _, rfl, by decide, R2, by simp [he1], fun H3 q3 t3 R3 k3 => ?_⟩
      repeat walk_at "st"
      refine ⟨by show 1 ≤ sizeLine; decide, fun pl npl => ?_⟩
      intro x dx nx ndx hdx
      refine ⟨x, dx, q1, pl, rfl, upd_same, fun HZ hq kp => ⟨rfl, ?_⟩⟩
      obtain ⟨S, sz⟩ := st_fin (ps := [q2]) npl nx ndx hq kp (TkAt.keep R2 k3 (TkAt.keep R1 k2 t1)) (.cons (TkAt.keep R2 k3 t2) .nil)
      exact k HZ x pl (Keep.free (Keep.trans (Keep.trans k1 k2) k3) R3 npl) S (R3.mono sz) (Keep.trans (Keep.trans (Keep.trans k1 k2) k3) (Keep.same sz))
    next => cases hp
  next => cases hp
theorem ok_read_robot {f : Addr} {fd : FuncData} (F : Fun K "read_robot" "read_robot" s_read_robot f fd) (T : Txt w K mg a)
    {f_Reader_take : Addr} (ME_Reader_take : Meth K a.cReader "take" f_Reader_take) (G_Reader_take : FnR P w K mg base CX0 2 f_Reader_take (sp_Reader_take_r K a))
    {f_Statement_init : Addr} {fd_Statement_init : FuncData} (M_Statement : Mk K a.cStatement f_Statement_init) (G_Statement_init : CalM P w K mg base 1 f_Statement_init fd_Statement_init ps_Statement_init (sp_Statement_init K a)) :
    FnOk P w K mg base CX0 3 f fd ps_read_robot (sp_read_robot K a) := by
  refine F.ok sc_read_robot (fun vs H Q E h => ?_) (fun cdv A outer s H vs Q E hr h => ?_)
  · obtain ⟨p, tl, rem, st, rem', rfl, R, hp, k⟩ := h
    rfl
  obtain ⟨p, tl, rem, st, rem', rfl, R, hp, k⟩ := h
  have hu := hu_of hr
  refine ⟨_, 
    (pss_cons (ps_set (i := 1) sc_read_robot.nd rfl (.inl rfl) (pe_methR (pv 0) T.cl_Reader ME_Reader_take G_Reader_take (hr.mono (by decide)) pass0 (pa_cons pe_str pa_nil))) 
    (pss_cons (ps_set (i := 2) sc_read_robot.nd rfl (.inl rfl) (pe_methR (pv 0) T.cl_Reader ME_Reader_take G_Reader_take (hr.mono (by decide)) pass0 (pa_cons pe_str pa_nil))) 
    (pss_cons (ps_set (i := 3) sc_read_robot.nd rfl (.inl rfl) (pe_methR (pv 0) T.cl_Reader ME_Reader_take G_Reader_take (hr.mono (by decide)) pass0 (pa_cons pe_str (pa_cons pe_str pa_nil)))) 
    (pss_cons (ps_expr (pe_methR (pv 0) T.cl_Reader ME_Reader_take G_Reader_take (hr.mono (by decide)) pass0 (pa_cons pe_str pa_nil))) 
    (pss_one (ps_ret (pe_make M_Statement G_Statement_init.ok (hr.mono (by decide)) rfl T.c_Statement G_Statement_init.b .nil pass0 (pa_cons (pv 1) (pa_cons (pe_lst (pa_cons (pv 2) (pa_cons (pv 3) pa_nil))) pa_nil))))))))), ?_⟩
  unfold pRobot at hp
  split at hp
  next w1 n1 s1 e1 r =>
    split at hp
    next hk =>
      obtain ⟨hw1, hn1, hs1, he1⟩ := hk
      cases hp
      repeat walk_at "st"
      refine r_methR ?_
      repeat walk_at "st"
      refine r_rd R rd_take ?_
      repeat walk_at "st"
      refine ⟨p, tl, ["robot"], w1, _, rfl, by decide, R, by simp [hw1], fun H1 q1 t1 R1 k1 => ?_⟩
      repeat walk_at "st"
      refine r_methR ?_
      repeat walk_at "st"
      refine r_rd R1 rd_take ?_
      repeat walk_at "st"
      refine ⟨p, tl, ["number"], n1, _, rfl, by decide, R1, by simp [hn1], fun H2 q2 t2 R2 k2 => ?_⟩
      repeat walk_at "st"
      refine r_methR ?_
      repeat walk_at "st"
      refine r_rd R2 rd_take ?_
      repeat walk_at "st"
      refine ⟨p, tl, ["left", "right"], s1, _, rfl, by decide, R2, by simp [hs1], fun H3 q3 t3 R3 k3 => ?_⟩
      repeat walk_at "st"
      refine r_methR ?_
      repeat walk_at "st"
      refine r_rd R3 rd_take ?_
      repeat walk_at "st"
      refine ⟨p, tl, [";"], e1, _, rfl, by decide, R3, by simp [he1], fun H4 q4 t4 R4 k4 => ?_⟩
      repeat walk_at "st"
      refine ⟨by show 2 ≤ sizeLine; decide, fun pl npl => ?_⟩
      intro x dx nx ndx hdx
      refine ⟨x, dx, q1, pl, rfl, upd_same, fun HZ hq kp => ⟨rfl, ?_⟩⟩
      obtain ⟨S, sz⟩ := st_fin (ps := [q2, q3]) npl nx ndx hq kp (TkAt.keep R3 k4 (TkAt.keep R2 k3 (TkAt.keep R1 k2 t1))) (.cons (TkAt.keep R3 k4 (TkAt.keep R2 k3 t2)) (.cons (TkAt.keep R3 k4 t3) .nil))
      exact k HZ x pl (Keep.free (Keep.trans (Keep.trans (Keep.trans k1 k2) k3) k4) R4 npl) S (R4.mono sz) (Keep.trans (Keep.trans (Keep.trans (Keep.trans k1 k2) k3) k4) (Keep.same sz))
    next => cases hp
  next => cases hp
theorem ok_read_put {f : Addr} {fd : FuncData} (F : Fun K "read_put" "read_put" s_read_put f fd) (T : Txt w K mg a)
    {f_Reader_take : Addr} (ME_Reader_take : Meth K a.cReader "take" f_Reader_take) (G_Reader_take : FnR P w K mg base CX0 2 f_Reader_take (sp_Reader_take_r K a))
    {f_Statement_init : Addr} {fd_Statement_init : FuncData} (M_Statement : Mk K a.cStatement f_Statement_init) (G_Statement_init : CalM P w K mg base 1 f_Statement_init fd_Statement_init ps_Statement_init (sp_Statement_init K a)) :
    FnOk P w K mg base CX0 3 f fd ps_read_put (sp_read_put K a) := by
  refine F.ok sc_read_put (fun vs H Q E h => ?_) (fun cdv A outer s H vs Q E hr h => ?_)
  · obtain ⟨p, tl, rem, st, rem', rfl, R, hp, k⟩ := h
    rfl
  obtain ⟨p, tl, rem, st, rem', rfl, R, hp, k⟩ := h
  have hu := hu_of hr
  refine ⟨_, 
    (pss_cons (ps_set (i := 1) sc_read_put.nd rfl (.inl rfl) (pe_methR (pv 0) T.cl_Reader ME_Reader_take G_Reader_take (hr.mono (by decide)) pass0 (pa_cons pe_str pa_nil))) 
    (pss_cons (ps_set (i := 2) sc_read_put.nd rfl (.inl rfl) (pe_methR (pv 0) T.cl_Reader ME_Reader_take G_Reader_take (hr.mono (by decide)) pass0 (pa_cons pe_str pa_nil))) 
    (pss_cons (ps_set (i := 3) sc_read_put.nd rfl (.inl rfl) (pe_methR (pv 0) T.cl_Reader ME_Reader_take G_Reader_take (hr.mono (by decide)) pass0 (pa_cons pe_str pa_nil))) 
    (pss_cons (ps_expr (pe_methR (pv 0) T.cl_Reader ME_Reader_take G_Reader_take (hr.mono (by decide)) pass0 (pa_cons pe_str pa_nil))) 
    (pss_one (ps_ret (pe_make M_Statement G_Statement_init.ok (hr.mono (by decide)) rfl T.c_Statement G_Statement_init.b .nil pass0 (pa_cons (pv 1) (pa_cons (pe_lst (pa_cons (pv 2) (pa_cons (pv 3) pa_nil))) pa_nil))))))))), ?_⟩
  unfold pPut at hp
  split at hp
  next w1 m1 n1 e1 r =>
    split at hp
    next hk =>
      obtain ⟨hw1, hm1, hn1, he1⟩ := hk
      cases hp
      repeat walk_at "st"
      refine r_methR ?_
      repeat walk_at "st"
      refine r_rd R rd_take ?_
      repeat walk_at "st"
      refine ⟨p, tl, ["put"], w1, _, rfl, by decide, R, by simp [hw1], fun H1 q1 t1 R1 k1 => ?_⟩
      repeat walk_at "st"
      refine r_methR ?_
      repeat walk_at "st"
      refine r_rd R1 rd_take ?_
      repeat walk_at "st"
      refine ⟨p, tl, ["name"], m1, _, rfl, by decide, R1, by simp [hm1], fun H2 q2 t2 R2 k2 => ?_⟩
      repeat walk_at "st"
      refine r_methR ?_
      repeat walk_at "st"
      refine r_rd R2 rd_take ?_
      repeat walk_at "st"
      refine ⟨p, tl, ["number"], n1, _, rfl, by decide, R2, by simp [hn1], fun H3 q3 t3 R3 k3 => ?_⟩
      repeat walk_at "st"
      refine r_methR ?_
      repeat walk_at "st"
      refine r_rd R3 rd_take ?_
      repeat walk_at "st"
      refine ⟨p, tl, [";"], e1, _, rfl, by decide, R3, by simp [he1], fun H4 q4 t4 R4 k4 => ?_⟩
      repeat walk_at "st"
      refine ⟨by show 2 ≤ sizeLine; decide, fun pl npl => ?_⟩
      intro x dx nx ndx hdx
      refine ⟨x, dx, q1, pl, rfl, upd_same, fun HZ hq kp => ⟨rfl, ?_⟩⟩
      obtain ⟨S, sz⟩ := st_fin (ps := [q2, q3]) npl nx ndx hq kp (TkAt.keep R3 k4 (TkAt.keep R2 k3 (TkAt.keep R1 k2 t1))) (.cons (TkAt.keep R3 k4 (TkAt.keep R2 k3 t2)) (.cons (TkAt.keep R3 k4 t3) .nil))
      exact k HZ x pl (Keep.free (Keep.trans (Keep.trans (Keep.trans k1 k2) k3) k4) R4 npl) S (R4.mono sz) (Keep.trans (Keep.trans (Keep.trans (Keep.trans k1 k2) k3) k4) (Keep.same sz))
    next => cases hp
  next => cases hp
theorem ok_read_rule {f : Addr} {fd : FuncData} (F : Fun K "read_rule" "read_rule" s_read_rule f fd) (T : Txt w K mg a)
    {f_Reader_take : Addr} (ME_Reader_take : Meth K a.cReader "take" f_Reader_take) (G_Reader_take : FnR P w K mg base CX0 2 f_Reader_take (sp_Reader_take_r K a))
    {f_Statement_init : Addr} {fd_Statement_init : FuncData} (M_Statement : Mk K a.cStatement f_Statement_init) (G_Statement_init : CalM P w K mg base 1 f_Statement_init fd_Statement_init ps_Statement_init (sp_Statement_init K a)) :
    FnOk P w K mg base CX0 3 f fd ps_read_rule (sp_read_rule K a) := by
  refine F.ok sc_read_rule (fun vs H Q E h => ?_) (fun cdv A outer s H vs Q E hr h => ?_)
  · obtain ⟨p, tl, rem, st, rem', rfl, R, hp, k⟩ := h
    rfl
  obtain ⟨p, tl, rem, st, rem', rfl, R, hp, k⟩ := h
  have hu := hu_of hr
  refine ⟨_, 
    (pss_cons (ps_set (i := 1) sc_read_rule.nd rfl (.inl rfl) (pe_methR (pv 0) T.cl_Reader ME_Reader_take G_Reader_take (hr.mono (by decide)) pass0 (pa_cons pe_str pa_nil))) 
    (pss_cons (ps_set (i := 2) sc_read_rule.nd rfl (.inl rfl) (pe_methR (pv 0) T.cl_Reader ME_Reader_take G_Reader_take (hr.mono (by decide)) pass0 (pa_cons pe_str pa_nil))) 
    (pss_cons (ps_set (i := 3) sc_read_rule.nd rfl (.inl rfl) (pe_methR (pv 0) T.cl_Reader ME_Reader_take G_Reader_take (hr.mono (by decide)) pass0 (pa_cons pe_str pa_nil))) 
    (pss_cons (ps_expr (pe_methR (pv 0) T.cl_Reader ME_Reader_take G_Reader_take (hr.mono (by decide)) pass0 (pa_cons pe_str pa_nil))) 
    (pss_cons (ps_set (i := 4) sc_read_rule.nd rfl (.inl rfl) (pe_methR (pv 0) T.cl_Reader ME_Reader_take G_Reader_take (hr.mono (by decide)) pass0 (pa_cons pe_str pa_nil))) 
    (pss_cons (ps_set (i := 5) sc_read_rule.nd rfl (.inl rfl) (pe_methR (pv 0) T.cl_Reader ME_Reader_take G_Reader_take (hr.mono (by decide)) pass0 (pa_cons pe_str (pa_cons pe_str (pa_cons pe_str pa_nil))))) 
    (pss_cons (ps_set (i := 6) sc_read_rule.nd rfl (.inl rfl) (pe_methR (pv 0) T.cl_Reader ME_Reader_take G_Reader_take (hr.mono (by decide)) pass0 (pa_cons pe_str pa_nil))) 
    (pss_cons (ps_expr (pe_methR (pv 0) T.cl_Reader ME_Reader_take G_Reader_take (hr.mono (by decide)) pass0 (pa_cons pe_str pa_nil))) 
    (pss_one (ps_ret (pe_make M_Statement G_Statement_init.ok (hr.mono (by decide)) rfl T.c_Statement G_Statement_init.b .nil pass0 (pa_cons (pv 1) (pa_cons (pe_lst (pa_cons (pv 2) (pa_cons (pv 3) (pa_cons (pv 4) (pa_cons (pv 5) (pa_cons (pv 6) pa_nil)))))) pa_nil))))))))))))), ?_⟩
  unfold pRule at hp
  split at hp
  next w1 m1 s1 l1 t1' v1 n1 e1 r =>
    split at hp
    next hk =>
      obtain ⟨hw1, hm1, hs1, hl1, ht1', hv1, hn1, he1⟩ := hk
      cases hp
      repeat walk_at "st"
      refine r_methR ?_
      repeat walk_at "st"
      refine r_rd R rd_take ?_
      repeat walk_at "st"
      refine ⟨p, tl, ["when"], w1, _, rfl, by decide, R, by simp [hw1], fun H1 q1 t1 R1 k1 => ?_⟩
      repeat walk_at "st"
      refine r_methR ?_
      repeat walk_at "st"
      refine r_rd R1 rd_take ?_
      repeat walk_at "st"
      refine ⟨p, tl, ["name"], m1, _, rfl, by decide, R1, by simp [hm1], fun H2 q2 t2 R2 k2 => ?_⟩
      repeat walk_at "st"
      refine r_methR ?_
      repeat walk_at "st"
      refine r_rd R2 rd_take ?_
      repeat walk_at "st"
      refine ⟨p, tl, ["name"], s1, _, rfl, by decide, R2, by simp [hs1], fun H3 q3 t3 R3 k3 => ?_⟩
      repeat walk_at "st"
      refine r_methR ?_
      repeat walk_at "st"
      refine r_rd R3 rd_take ?_
      repeat walk_at "st"
      refine ⟨p, tl, ["leave"], l1, _, rfl, by decide, R3, by simp [hl1], fun H4 q4 t4 R4 k4 => ?_⟩
      repeat walk_at "st"
      refine r_methR ?_
      repeat walk_at "st"
      refine r_rd R4 rd_take ?_
      repeat walk_at "st"
      refine ⟨p, tl, ["name"], t1', _, rfl, by decide, R4, by simp [ht1'], fun H5 q5 t5 R5 k5 => ?_⟩
      repeat walk_at "st"
      refine r_methR ?_
      repeat walk_at "st"
      refine r_rd R5 rd_take ?_
      repeat walk_at "st"
      refine ⟨p, tl, ["on", "back", "stay"], v1, _, rfl, by decide, R5, by simp [hv1], fun H6 q6 t6 R6 k6 => ?_⟩
      repeat walk_at "st"
      refine r_methR ?_
      repeat walk_at "st"
      refine r_rd R6 rd_take ?_
      repeat walk_at "st"
      refine ⟨p, tl, ["name"], n1, _, rfl, by decide, R6, by simp [hn1], fun H7 q7 t7 R7 k7 => ?_⟩
      repeat walk_at "st"
      refine r_methR ?_
      repeat walk_at "st"
      refine r_rd R7 rd_take ?_
      repeat walk_at "st"
      refine ⟨p, tl, [";"], e1, _, rfl, by decide, R7, by simp [he1], fun H8 q8 t8 R8 k8 => ?_⟩
      repeat walk_at "st"
      refine ⟨by show 5 ≤ sizeLine; decide, fun pl npl => ?_⟩
      intro x dx nx ndx hdx
      refine ⟨x, dx, q1, pl, rfl, upd_same, fun HZ hq kp => ⟨rfl, ?_⟩⟩
      obtain ⟨S, sz⟩ := st_fin (ps := [q2, q3, q5, q6, q7]) npl nx ndx hq kp (TkAt.keep R7 k8 (TkAt.keep R6 k7 (TkAt.keep R5 k6 (TkAt.keep R4 k5 (TkAt.keep R3 k4 (TkAt.keep R2 k3 (TkAt.keep R1 k2 t1))))))) (.cons (TkAt.keep R7 k8 (TkAt.keep R6 k7 (TkAt.keep R5 k6 (TkAt.keep R4 k5 (TkAt.keep R3 k4 (TkAt.keep R2 k3 t2)))))) (.cons (TkAt.keep R7 k8 (TkAt.keep R6 k7 (TkAt.keep R5 k6 (TkAt.keep R4 k5 (TkAt.keep R3 k4 t3))))) (.cons (TkAt.keep R7 k8 (TkAt.keep R6 k7 (TkAt.keep R5 k6 t5))) (.cons (TkAt.keep R7 k8 (TkAt.keep R6 k7 t6)) (.cons (TkAt.keep R7 k8 t7) .nil)))))
      exact k HZ x pl (Keep.free (Keep.trans (Keep.trans (Keep.trans (Keep.trans (Keep.trans (Keep.trans (Keep.trans k1 k2) k3) k4) k5) k6) k7) k8) R8 npl) S (R8.mono sz) (Keep.trans (Keep.trans (Keep.trans (Keep.trans (Keep.trans (Keep.trans (Keep.trans (Keep.trans k1 k2) k3) k4) k5) k6) k7) k8) (Keep.same sz))
    next => cases hp
  next => cases hp
theorem ok_read_statement {f : Addr} {fd : FuncData} (F : Fun K "read_statement" "read_statement" s_read_statement f fd) (T : Txt w K mg a)
    {f_Reader_sees : Addr} {fd_Reader_sees : FuncData} (ME_Reader_sees : Meth K a.cReader "sees" f_Reader_sees) (G_Reader_sees : CalM P w K mg base 2 f_Reader_sees fd_Reader_sees ps_Reader_sees (sp_Reader_sees K a))
    {f_read_put : Addr} {fd_read_put : FuncData} (G_read_put : Cal P w K mg base "read_put" 3 f_read_put fd_read_put ps_read_put (sp_read_put K a))
    {f_read_rule : Addr} {fd_read_rule : FuncData} (G_read_rule : Cal P w K mg base "read_rule" 3 f_read_rule fd_read_rule ps_read_rule (sp_read_rule K a))
    {f_read_robot : Addr} {fd_read_robot : FuncData} (G_read_robot : Cal P w K mg base "read_robot" 3 f_read_robot fd_read_robot ps_read_robot (sp_read_robot K a)) :
    FnOk P w K mg base CX0 4 f fd ps_read_statement (sp_read_statement K a) := by
  refine F.ok sc_read_statement (fun vs H Q E h => ?_) (fun cdv A outer s H vs Q E hr h => ?_)
  · obtain ⟨p, tl, rem, st, rem', rfl, R, hp, k⟩ := h
    rfl
  obtain ⟨p, tl, rem, st, rem', rfl, R, hp, k⟩ := h
  have hu := hu_of hr
  refine ⟨_, 
    (pss_cons (ps_if (pt_val (pe_meth (pv 0) T.cl_Reader ME_Reader_sees G_Reader_sees.ok (hr.mono (by decide)) G_Reader_sees.b .nil pass0 (pa_cons pe_str pa_nil))) 
      (pss_one (ps_ret (pe_call G_read_put.ok (hr.mono (by decide)) rfl G_read_put.mg' G_read_put.kp G_read_put.b .nil pass0 (pa_cons (pv 0) pa_nil)))) pss_nil) 
    (pss_cons (ps_if (pt_val (pe_meth (pv 0) T.cl_Reader ME_Reader_sees G_Reader_sees.ok (hr.mono (by decide)) G_Reader_sees.b .nil pass0 (pa_cons pe_str pa_nil))) 
      (pss_one (ps_ret (pe_call G_read_rule.ok (hr.mono (by decide)) rfl G_read_rule.mg' G_read_rule.kp G_read_rule.b .nil pass0 (pa_cons (pv 0) pa_nil)))) pss_nil) 
    (pss_one (ps_ret (pe_call G_read_robot.ok (hr.mono (by decide)) rfl G_read_robot.mg' G_read_robot.kp G_read_robot.b .nil pass0 (pa_cons (pv 0) pa_nil)))))), ?_⟩
  unfold pStatement at hp
  cases rem with
  | nil => cases hp
  | cons t r =>
    dsimp only at hp
    repeat walk_at "st"
    refine r_rd R rd_sees ?_
    repeat walk_at "st"
    refine ⟨p, tl, t :: r, "put", rfl, R, ?_⟩
    repeat walk_at "st"
    refine ite_b (p := t.kind = "put") (by simp) (fun h => ?_) fun h => ?_
    · rw [if_pos h] at hp
      repeat walk_at "st"
      exact ⟨p, tl, t :: r, st, rem', rfl, R, hp, k⟩
    rw [if_neg h] at hp
    repeat walk_at "st"
    refine r_rd R rd_sees ?_
    repeat walk_at "st"
    refine ⟨p, tl, t :: r, "when", rfl, R, ?_⟩
    repeat walk_at "st"
    refine ite_b (p := t.kind = "when") (by simp) (fun h => ?_) fun h => ?_
    · rw [if_pos h] at hp
      repeat walk_at "st"
      exact ⟨p, tl, t :: r, st, rem', rfl, R, hp, k⟩
    rw [if_neg h] at hp
    repeat walk_at "st"
    exact ⟨p, tl, t :: r, st, rem', rfl, R, hp, k⟩
theorem RdAt.updL {a : Adr} {H : Hp} {p tl l : Addr} {rem : List Tk} {xs ys : List V} (hl : H l = some (.lst xs)) (n : tl ≠ l) (R : RdAt a H p tl rem) : RdAt a (upd H l (.lst ys)) p tl rem := by
  obtain ⟨dx, li, ps1, ps2, h1, h2, h3, h4⟩ := R
  exact ⟨dx, li, ps1, ps2, by rw [upd_ne (ne_of h1 hl (by intro z; cases z))]; exact h1, by rw [upd_ne n]; exact h2, Paired.mapP h3 fun _ _ h => upd_lstTk hl h, h4⟩
theorem RdAt.len {a : Adr} {H : Hp} {p tl : Addr} {rem : List Tk} (R : RdAt a H p tl rem) : rem.length ≤ 90000 := by
  obtain ⟨_, _, ps1, ps2, _, _, h3, h4⟩ := R
  rw [← PySem.Paired.length h3]
  rw [List.length_append] at h4
  omega
theorem namesOf_le : ∀ ts, (namesOf ts).length ≤ ts.length
  | [] => Nat.le_refl _
  | t :: r => by
    unfold namesOf
    split
    · exact Nat.succ_le_succ (namesOf_le r)
    · exact Nat.zero_le _
theorem ok_read_names {f : Addr} {fd : FuncData} (F : Fun K "read_names" "read_names" s_read_names f fd) (T : Txt w K mg a)
    {f_Reader_take : Addr} (ME_Reader_take : Meth K a.cReader "take" f_Reader_take) (G_Reader_take : FnR P w K mg base CX0 2 f_Reader_take (sp_Reader_take_r K a))
    {f_Reader_sees : Addr} {fd_Reader_sees : FuncData} (ME_Reader_sees : Meth K a.cReader "sees" f_Reader_sees) (G_Reader_sees : CalM P w K mg base 2 f_Reader_sees fd_Reader_sees ps_Reader_sees (sp_Reader_sees K a))
    {f_Statement_init : Addr} {fd_Statement_init : FuncData} (M_Statement : Mk K a.cStatement f_Statement_init) (G_Statement_init : CalM P w K mg base 1 f_Statement_init fd_Statement_init ps_Statement_init (sp_Statement_init K a)) :
    FnOk P w K mg base CX0 3 f fd ps_read_names (sp_read_names K a) := by
  refine F.ok sc_read_names (fun vs H Q E h => ?_) (fun cdv A outer s H vs Q E hr h => ?_)
  · obtain ⟨p, tl, kw, rem, st, rem', rfl, R, hp, k⟩ := h
    rfl
  obtain ⟨p, tl, kw, rem, st, rem', rfl, R, hp, k⟩ := h
  have hu := hu_of hr
  refine ⟨_, 
    (pss_cons (ps_set (i := 2) sc_read_names.nd rfl (.inl rfl) (pe_methR (pv 0) T.cl_Reader ME_Reader_take G_Reader_take (hr.mono (by decide)) pass0 (pa_cons (pv 1) pa_nil))) 
    (pss_cons (ps_set (i := 3) sc_read_names.nd rfl (.inl rfl) (pe_lst (pa_cons (pe_methR (pv 0) T.cl_Reader ME_Reader_take G_Reader_take (hr.mono (by decide)) pass0 (pa_cons pe_str pa_nil)) pa_nil))) 
    (pss_cons (ps_while PassesOwn.never (pt_val (pe_meth (pv 0) T.cl_Reader ME_Reader_sees G_Reader_sees.ok (hr.mono (by decide)) G_Reader_sees.b .nil pass0 (pa_cons pe_str pa_nil))) 
      (pss_one (ps_expr (pe_bm PySem.F.plainAttrs_list PySem.F.slot_list_append PySem.F.type_list_append mt_append (pv 3) (pa_cons (pe_methR (pv 0) T.cl_Reader ME_Reader_take G_Reader_take (hr.mono (by decide)) pass0 (pa_cons pe_str pa_nil)) pa_nil))))) 
    (pss_cons (ps_expr (pe_methR (pv 0) T.cl_Reader ME_Reader_take G_Reader_take (hr.mono (by decide)) pass0 (pa_cons pe_str pa_nil))) 
    (pss_one (ps_ret (pe_make M_Statement G_Statement_init.ok (hr.mono (by decide)) rfl T.c_Statement G_Statement_init.b .nil pass0 (pa_cons (pv 2) (pa_cons (pv 3) pa_nil))))))))), ?_⟩
  unfold pNames at hp
  split at hp
  next w1 n1 r =>
    split at hp
    next hk =>
      obtain ⟨hw1, hn1⟩ := hk
      split at hp
      next e1 r' hrest =>
        split at hp
        next he1 =>
          cases hp
          repeat walk_at "st"
          refine r_methR ?_
          repeat walk_at "st"
          refine r_rd R rd_take ?_
          repeat walk_at "st"
          refine ⟨p, tl, [kw], w1, _, rfl, (by show 1 ≤ 10; decide), R, by simp [hw1], fun H1 q1 t1 R1 k1 => ?_⟩
          repeat walk_at "st"
          refine r_methR ?_
          repeat walk_at "st"
          refine r_rd R1 rd_take ?_
          repeat walk_at "st"
          refine ⟨p, tl, ["name"], n1, _, rfl, by decide, R1, by simp [hn1], fun H2 q2 t2 R2 k2 => ?_⟩
          repeat walk_at "st"
          refine ⟨by show 1 ≤ sizeLine; decide, fun l nl => ?_⟩
          repeat walk_at "st"
          have ltl : tl ≠ l := by
            obtain ⟨_, _, _, _, _, h, _⟩ := R2
            exact ne_of_none h nl
          have sl : Same H2 (upd H2 l (.lst [V.ref q2])) := Same.new nl
          have hlen := namesOf_le r
          have hlen2 := R2.len
          refine r_while (fun m σ H3 => ∃ rem1 ps ts, m = rem1.length ∧ RdAt a H3 p tl rem1 ∧ H3 l = some (.lst (ps.map V.ref)) ∧ TksAt a H3 ps ts ∧ TkAt a H3 q1 w1 ∧ ts ++ namesOf rem1 = n1 :: namesOf r ∧ restOf rem1 = restOf r ∧
            Keep p H2 H3 ∧ σ = [some (.ref p), some (.str kw), some (.ref q1), some (.ref l)]) (m0 := r.length)
            ⟨r, [q2], [n1], rfl, R2.mono sl, upd_same, .cons (t2.mono sl) .nil, (t1.keep R1 k2).mono sl, rfl, rfl, Keep.same sl, rfl⟩ ?_
          rintro m σ H3 ⟨rem1, ps, ts, rfl, R3, hl3, ht3, hw3, e3, f3, k3, rfl⟩
          repeat walk_at "st"
          refine r_rd R3 rd_sees ?_
          repeat walk_at "st"
          refine ⟨p, tl, rem1, "name", rfl, R3, ?_⟩
          repeat walk_at "st"
          cases rem1 with
          | nil =>
            rw [hrest] at f3
            cases f3
          | cons t2' r2 =>
            refine ite_b (p := t2'.kind = "name") rfl (fun h => ?_) fun h => ?_
            · rw [namesOf_pos h] at e3
              rw [restOf_pos h] at f3
              refine ⟨_, fun _ _ h => h, ?_⟩
              repeat walk_at "st"
              refine r_tyL (SqL.of hl3) ?_
              repeat walk_at "st"
              refine r_methR ?_
              repeat walk_at "st"
              refine r_rd R3 rd_take ?_
              repeat walk_at "st"
              refine ⟨p, tl, ["name"], t2', _, rfl, by decide, R3, by simp [h], fun H4 q4 t4 R4 k4 => ?_⟩
              repeat walk_at "st"
              have hl4 := k4 _ _ hl3 (lst_rd hl3 R3)
              have hb : ps.length ≤ 90001 := by
                have e := congrArg List.length e3
                rw [List.length_append, List.length_cons, List.length_cons, ← PySem.Paired.length ht3] at e
                omega
              refine r_app hl4 (by rw [List.length_map]; exact Nat.lt_of_le_of_lt hb (by decide)) ?_
              repeat walk_at "st"
              have kl : Keep l H4 (upd H4 l (.lst (ps.map V.ref ++ [V.ref q4]))) := fun b o e n => upd_kept e n
              refine ⟨r2.length, by simp, r2, ps ++ [q4], ts ++ [t2'], rfl, R4.updL hl4 ltl, by rw [upd_same, List.map_append]; rfl,
                Paired.mapP (Paired.snoc (ht3.keep R3 k4) t4) fun _ _ h => upd_lstTk hl4 h, upd_lstTk hl4 (hw3.keep R3 k4), by rw [List.append_assoc]; exact e3, f3, ?_, rfl⟩
              intro b o e n
              rw [upd_ne (ne_of_none e nl)]
              exact k4 _ _ (k3 _ _ e n) n
            · rw [namesOf_neg h] at e3
              rw [restOf_neg h] at f3
              rw [List.append_nil] at e3
              subst e3
              have e5 : t2' :: r2 = e1 :: rem' := f3.trans hrest
              cases e5
              repeat walk_at "st"
              refine r_methR ?_
              repeat walk_at "st"
              refine r_rd R3 rd_take ?_
              repeat walk_at "st"
              refine ⟨p, tl, [";"], _, _, rfl, by decide, R3, by simp [he1], fun H4 q4 t4 R4 k4 => ?_⟩
              repeat walk_at "st"
              intro x dx nx ndx hdx
              refine ⟨x, dx, q1, l, rfl, upd_same, fun HZ hq kp => ⟨rfl, ?_⟩⟩
              have sz : Same H4 HZ := Same.made nx ndx kp
              have hl4 := k4 _ _ hl3 (lst_rd hl3 R3)
              refine k HZ x l (Keep.free (Keep.trans k1 k2) R2 nl) ⟨dx, q1, ps, hq, (hw3.keep R3 k4).mono sz, sz _ _ hl4, (ht3.keep R3 k4).mono sz⟩ (R4.mono sz) ?_
              exact Keep.trans (Keep.trans (Keep.trans (Keep.trans k1 k2) k3) k4) (Keep.same sz)
        next => cases hp
      next => cases hp
    next => cases hp
  next => cases hp
end
end Sw

/-! parse. -/
namespace Sw
open PySem L2
section
variable {P : Program} {w : World} {K : PySem.W.Frag} {mg : Str → Option Value} {base : Heap} {a : Adr}
/-- a statement whose list of parts is another one than l, and not known to H0 -/
def StAv (a : Adr) (l : Addr) (H0 H : Hp) (q : Addr) (st : Stm) : Prop := ∃ pl, (pl ≠ l ∧ H0 pl = none) ∧ StAt a H q pl st
theorem StAv.updL {l : Addr} {H0 H : Hp} {q : Addr} {st : Stm} {xs ys : List V} (hl : H l = some (.lst xs)) (h : StAv a l H0 H q st) : StAv a l H0 (upd H l (.lst ys)) q st := by
  obtain ⟨pl, n, dx, wq, ps, h1, h2, h3, h4⟩ := h
  exact ⟨pl, n, dx, wq, ps, by rw [upd_ne (ne_of h1 hl (by intro z; cases z))]; exact h1, upd_lstTk hl h2, by rw [upd_ne n.1]; exact h3, Paired.mapP h4 fun _ _ h => upd_lstTk hl h⟩
theorem StAv.mono {l : Addr} {H0 H H' : Hp} {q : Addr} {st : Stm} (s : Same H H') (h : StAv a l H0 H q st) : StAv a l H0 H' q st := let ⟨pl, n, g⟩ := h; ⟨pl, n, g.mono s⟩
theorem StAv.keep {l : Addr} {H0 H H' : Hp} {p tl q : Addr} {st : Stm} {rem : List Tk} (r : RdAt a H p tl rem) (k : Keep p H H') (h : StAv a l H0 H q st) : StAv a l H0 H' q st := let ⟨pl, n, g⟩ := h; ⟨pl, n, g.keep r k⟩
def sp_parse (K : PySem.W.Frag) (a : Adr) : Sp := fun vs H Q _ => ∃ (z : Str) (ts : List Tk) (ss : List Stm), vs = [.str z] ∧ TokPre z ts ∧ parseM ts = some ss ∧
  ∀ H' p qs, Same H H' → H p = none → H' p = some (.lst (qs.map V.ref)) → Paired (StAv a p H H') qs ss → Q (.ref p) H'
theorem pAll_len : ∀ (n : Nat) (ts : List Tk) (ss : List Stm), pAll n ts = some ss → ss.length ≤ ts.length
  | _, [], ss, h => by
    unfold pAll at h; cases h; exact Nat.le_refl _
  | 0, t :: r, ss, h => by
    unfold pAll at h; cases h
  | n + 1, t :: r, ss, h => by
    unfold pAll at h
    cases e : pStatement (t :: r) with
    | none => rw [e] at h; cases h
    | some x =>
      obtain ⟨s, r'⟩ := x
      rw [e] at h
      cases e2 : pAll n r' with
      | none => simp only [e2] at h; cases h
      | some ss' =>
        simp only [e2] at h
        cases h
        have := pAll_len n r' ss' e2
        have := pStatement_len e
        simp only [List.length_cons] at *
        omega
/-- parse under way: statements so far in the list at l, the rest ahead of the Reader at p -/
structure PSt (a : Adr) (l p tl : Addr) (H0 H : Hp) (qs : List Addr) (ss : List Stm) (rem : List Tk) : Prop where
  hl : H l = some (.lst (qs.map V.ref))
  pr : Paired (StAv a l H0 H) qs ss
  R : RdAt a H p tl rem
  same : Same H0 H
  p0 : H0 p = none
  l0 : H0 l = none
  ltl : tl ≠ l
theorem PSt.more {l p tl pl q : Addr} {H0 H H' : Hp} {qs : List Addr} {ss : List Stm} {rem rem' : List Tk} {st : Stm} (S : PSt a l p tl H0 H qs ss rem) (n : H pl = none) (g : StAt a H' q pl st) (R' : RdAt a H' p tl rem') (k : Keep p H H') :
    H' l = some (.lst (qs.map V.ref)) ∧ PSt a l p tl H0 (upd H' l (.lst (qs.map V.ref ++ [V.ref q]))) (qs ++ [q]) (ss ++ [st]) rem' := by
  have hl' := k _ _ S.hl (lst_rd S.hl S.R)
  have npl : pl ≠ l := fun z => by rw [z, S.hl] at n; cases n
  refine ⟨hl', ⟨by rw [upd_same, List.map_append]; rfl, ?_, R'.updL hl' S.ltl, ?_, S.p0, S.l0, S.ltl⟩⟩
  · exact Paired.mapP (Paired.snoc (Paired.mapP S.pr fun _ _ h => h.keep S.R k) ⟨pl, ⟨npl, S.same.free n⟩, g⟩) fun _ _ h => h.updL hl'
  · intro b o e
    rw [upd_ne (ne_of_none e S.l0)]
    exact k _ _ (S.same _ _ e) (ne_of_none e S.p0)
theorem ok_parse {f : Addr} {fd : FuncData} (F : Fun K "parse" "parse" s_parse f fd) (T : Txt w K mg a)
    {f_Reader_init : Addr} {fd_Reader_init : FuncData} (M_Reader : Mk K a.cReader f_Reader_init) (G_Reader_init : CalM P w K mg base 5 f_Reader_init fd_Reader_init ps_Reader_init (sp_Reader_init K a))
    {f_read_corridor : Addr} {fd_read_corridor : FuncData} (G_read_corridor : Cal P w K mg base "read_corridor" 3 f_read_corridor fd_read_corridor ps_read_corridor (sp_read_corridor K a))
    {f_read_names : Addr} {fd_read_names : FuncData} (G_read_names : Cal P w K mg base "read_names_parser" 3 f_read_names fd_read_names ps_read_names (sp_read_names K a))
    {f_read_robot : Addr} {fd_read_robot : FuncData} (G_read_robot : Cal P w K mg base "read_robot" 3 f_read_robot fd_read_robot ps_read_robot (sp_read_robot K a))
    {f_Reader_ended : Addr} {fd_Reader_ended : FuncData} (ME_Reader_ended : Meth K a.cReader "ended" f_Reader_ended) (G_Reader_ended : CalM P w K mg base 1 f_Reader_ended fd_Reader_ended ps_Reader_ended (sp_Reader_ended K a))
    {f_read_statement : Addr} {fd_read_statement : FuncData} (G_read_statement : Cal P w K mg base "read_statement" 4 f_read_statement fd_read_statement ps_read_statement (sp_read_statement K a)) :
    FnOk P w K mg base CX0 7 f fd ps_parse (sp_parse K a) := by
  refine F.ok sc_parse (fun vs H Q E h => ?_) (fun cdv A outer s H vs Q E hr h => ?_)
  · obtain ⟨z, ts, ss, rfl, hz, hp, k⟩ := h
    rfl
  obtain ⟨z, ts, ss, rfl, hz, hp, k⟩ := h
  have hu := hu_of hr
  refine ⟨_, 
    (pss_cons (ps_if (pt_not (pt_val (pe_callB call_isi (by rfl) T.n_isinstance (by decide +kernel) (pa_cons (pv 0) (pa_cons (ptT (n := "str") (by rfl) T.n_str (by decide +kernel)) pa_nil))))) 
      (pss_one ps_never) pss_nil) 
    (pss_cons (ps_set (i := 1) sc_parse.nd rfl (.inl rfl) (pe_make M_Reader G_Reader_init.ok (hr.mono (by decide)) rfl T.c_Reader G_Reader_init.b .nil pass0 (pa_cons (pv 0) pa_nil))) 
    (pss_cons (ps_set (i := 2) sc_parse.nd rfl (.inl rfl) (pe_lst (pa_cons (pe_call G_read_corridor.ok (hr.mono (by decide)) rfl G_read_corridor.mg' G_read_corridor.kp G_read_corridor.b .nil pass0 (pa_cons (pv 1) pa_nil)) pa_nil))) 
    (pss_cons (ps_expr (pe_bm PySem.F.plainAttrs_list PySem.F.slot_list_append PySem.F.type_list_append mt_append (pv 2) (pa_cons (pe_call G_read_names.ok (hr.mono (by decide)) rfl G_read_names.mg' G_read_names.kp G_read_names.b .nil pass0 (pa_cons (pv 1) (pa_cons pe_str pa_nil))) pa_nil))) 
    (pss_cons (ps_expr (pe_bm PySem.F.plainAttrs_list PySem.F.slot_list_append PySem.F.type_list_append mt_append (pv 2) (pa_cons (pe_call G_read_names.ok (hr.mono (by decide)) rfl G_read_names.mg' G_read_names.kp G_read_names.b .nil pass0 (pa_cons (pv 1) (pa_cons pe_str pa_nil))) pa_nil))) 
    (pss_cons (ps_expr (pe_bm PySem.F.plainAttrs_list PySem.F.slot_list_append PySem.F.type_list_append mt_append (pv 2) (pa_cons (pe_call G_read_robot.ok (hr.mono (by decide)) rfl G_read_robot.mg' G_read_robot.kp G_read_robot.b .nil pass0 (pa_cons (pv 1) pa_nil)) pa_nil))) 
    (pss_cons (ps_while PassesOwn.never (pt_not (pt_val (pe_meth0 (pv 1) T.cl_Reader ME_Reader_ended G_Reader_ended.ok (hr.mono (by decide)) G_Reader_ended.b .nil pass0))) 
      (pss_one (ps_expr (pe_bm PySem.F.plainAttrs_list PySem.F.slot_list_append PySem.F.type_list_append mt_append (pv 2) (pa_cons (pe_call G_read_statement.ok (hr.mono (by decide)) rfl G_read_statement.mg' G_read_statement.kp G_read_statement.b .nil pass0 (pa_cons (pv 1) pa_nil)) pa_nil))))) 
    (pss_one (ps_ret (pv 2)))))))))), ?_⟩
  unfold parseM at hp
  repeat walk_at "st"
  refine ⟨_, _, _, _, _, rfl, ClsV.ty "str", TyX.base (.str _), kit_ty (r := true) (by decide +kernel), ?_⟩
  repeat walk_at "st"
  refine iteF ?_
  repeat walk_at "st"
  intro p dx np ndx hdx
  refine ⟨p, dx, z, ts, rfl, upd_same, hz, fun H1 tl R1 k1 => ⟨rfl, ?_⟩⟩
  have s1 : Same H H1 := Same.made np ndx k1
  cases e1 : pCorridor ts with
  | none => rw [e1] at hp; cases hp
  | some x1 =>
    obtain ⟨st1, r1⟩ := x1
    rw [e1] at hp
    dsimp only at hp
    cases e2 : pNames "signs" r1 with
    | none => rw [e2] at hp; cases hp
    | some x2 =>
      obtain ⟨st2, r2⟩ := x2
      rw [e2] at hp
      dsimp only at hp
      cases e3 : pNames "moods" r2 with
      | none => rw [e3] at hp; cases hp
      | some x3 =>
        obtain ⟨st3, r3⟩ := x3
        rw [e3] at hp
        dsimp only at hp
        cases e4 : pRobot r3 with
        | none => rw [e4] at hp; cases hp
        | some x4 =>
          obtain ⟨st4, r4⟩ := x4
          rw [e4] at hp
          dsimp only at hp
          cases e5 : pAll r4.length r4 with
          | none => rw [e5] at hp; cases hp
          | some ss5 =>
            rw [e5] at hp
            cases hp
            repeat walk_at "st"
            refine ⟨p, tl, ts, st1, r1, rfl, R1, e1, fun H2 q1 pl1 n1 g1 R2 k2 => ?_⟩
            repeat walk_at "st"
            refine ⟨by show 1 ≤ sizeLine; decide, fun l nl => ?_⟩
            have sl : Same H2 (upd H2 l (.lst [V.ref q1])) := Same.new nl
            have nlH : H l = none := s1.free (Keep.free k2 R2 nl)
            have S1 : PSt a l p tl H (upd H2 l (.lst ([q1].map V.ref))) [q1] [st1] r1 := by
              refine ⟨upd_same, .cons ⟨pl1, ⟨?_, s1.free n1⟩, g1.mono sl⟩ .nil, R2.mono sl, ?_, np, nlH, ?_⟩
              · obtain ⟨_, _, _, _, _, h, _⟩ := g1
                exact ne_of_none h nl
              · exact fun b o e => sl _ _ (k2 _ _ (s1 _ _ e) (ne_of_none e np))
              · obtain ⟨_, _, _, _, _, h, _⟩ := R2
                exact ne_of_none h nl
            have hlen0 := pAll_len _ _ _ e5
            repeat walk_at "st"
            refine r_tyL (SqL.of S1.hl) ?_
            repeat walk_at "st"
            refine ⟨p, tl, "signs", r1, st2, r2, rfl, S1.R, e2, fun H3 q2 pl2 n2 g2 R3 k3 => ?_⟩
            obtain ⟨hl3, S2⟩ := S1.more n2 g2 R3 k3
            repeat walk_at "st"
            refine r_app hl3 (by show 1 < sizeLine; decide) ?_
            repeat walk_at "st"
            refine r_tyL (SqL.of S2.hl) ?_
            repeat walk_at "st"
            refine ⟨p, tl, "moods", r2, st3, r3, rfl, S2.R, e3, fun H4 q3 pl3 n3 g3 R4 k4 => ?_⟩
            obtain ⟨hl4, S3⟩ := S2.more n3 g3 R4 k4
            repeat walk_at "st"
            refine r_app hl4 (by show 2 < sizeLine; decide) ?_
            repeat walk_at "st"
            refine r_tyL (SqL.of S3.hl) ?_
            repeat walk_at "st"
            refine ⟨p, tl, r3, st4, r4, rfl, S3.R, e4, fun H5 q4 pl4 n4 g4 R5 k5 => ?_⟩
            obtain ⟨hl5, S4⟩ := S3.more n4 g4 R5 k5
            have hlen4 := S4.R.len
            repeat walk_at "st"
            refine r_app hl5 (by show 3 < sizeLine; decide) ?_
            repeat walk_at "st"
            refine r_while (fun m σ H6 => ∃ rem qs ss1 ss2, pAll m rem = some ss2 ∧ ss1 ++ ss2 = st1 :: st2 :: st3 :: st4 :: ss5 ∧ PSt a l p tl H H6 qs ss1 rem ∧ σ = [some (.str z), some (.ref p), some (.ref l)]) (m0 := r4.length) ⟨r4, _, _, ss5, e5, rfl, S4, rfl⟩ ?_
            rintro m σ H6 ⟨rem, qs, ss1, ss2, h1, h2, S, rfl⟩
            repeat walk_at "st"
            refine r_rd S.R rd_ended ?_
            repeat walk_at "st"
            refine ⟨p, tl, rem, rfl, S.R, ?_⟩
            repeat walk_at "st"
            cases rem with
            | nil =>
              refine iteF ?_
              have e6 : ss2 = [] := by cases m <;> (unfold pAll at h1; cases h1; rfl)
              subst e6
              rw [List.append_nil] at h2
              subst h2
              repeat walk_at "st"
              exact k _ l qs S.same S.l0 S.hl S.pr
            | cons t r =>
              refine iteT ?_
              cases m with
              | zero => unfold pAll at h1; cases h1
              | succ n =>
                unfold pAll at h1
                cases e6 : pStatement (t :: r) with
                | none => rw [e6] at h1; cases h1
                | some x6 =>
                  obtain ⟨st6, r6⟩ := x6
                  rw [e6] at h1
                  dsimp only at h1
                  cases e7 : pAll n r6 with
                  | none => rw [e7] at h1; cases h1
                  | some ss7 =>
                    rw [e7] at h1
                    cases h1
                    refine ⟨_, fun _ _ h => h, ?_⟩
                    repeat walk_at "st"
                    refine r_tyL (SqL.of S.hl) ?_
                    repeat walk_at "st"
                    refine ⟨p, tl, t :: r, st6, r6, rfl, S.R, e6, fun H7 q6 pl6 n6 g6 R7 k7 => ?_⟩
                    obtain ⟨hl7, S7⟩ := S.more n6 g6 R7 k7
                    repeat walk_at "st"
                    have hb : qs.length ≤ 90004 := by
                      have e := congrArg List.length h2
                      rw [List.length_append, ← PySem.Paired.length S.pr] at e
                      simp only [List.length_cons] at e
                      omega
                    refine r_app hl7 (by rw [List.length_map]; exact Nat.lt_of_le_of_lt hb (by decide)) ?_
                    repeat walk_at "st"
                    exact ⟨n, Nat.lt_succ_self n, r6, _, _, ss7, e7, by rw [List.append_assoc]; exact h2, S7, rfl⟩
end
end Sw

/-! The checks: plans.py. -/
namespace Sw
open PySem L2
/-- a Plan's addresses -/
structure PA where
  p : Addr
  sg : Addr
  md : Addr
  rb : Addr
  pt : Addr
  rl : Addr
def plFs (A : PA) (size : Int) : List (Str × V) := [("size", .int size), ("signs", .ref A.sg), ("moods", .ref A.md), ("robots", .ref A.rb), ("puts", .ref A.pt), ("rules", .ref A.rl)]
def RbAt (H : Hp) (q : Addr) (r : Int × Nat) : Prop := H q = some (.tup [.int r.1, .int (r.2 : Int)])
def RuAt (H : Hp) (kv : List Key × V) (r : (Nat × Nat) × Nat × Nat × Nat) : Prop := kv.1 = [Sum.inl (r.1.1 : Int), Sum.inl (r.1.2 : Int)] ∧ ∃ q, kv.2 = .ref q ∧ H q = some (.tup [.int (r.2.1 : Int), .int (r.2.2.1 : Int), .int (r.2.2.2 : Int)])
def ptV (l : List (Int × Nat)) : List (Key × V) := l.map fun x => (Sum.inl x.1, V.int (x.2 : Int))
structure PlanAt (a : Adr) (H : Hp) (A : PA) (pd : PlanD) : Prop where
  ob : ∃ dx, H A.p = some (.ins a.cPlan dx (plFs A pd.size))
  sg : H A.sg = some (.lst (pd.signs.map V.str))
  md : H A.md = some (.lst (pd.moods.map V.str))
  rb : ∃ qs, H A.rb = some (.lst (qs.map V.ref)) ∧ Paired (RbAt H) qs pd.robots
  pt : H A.pt = some (.dK (ptV pd.puts))
  rl : ∃ kvs, H A.rl = some (.dT kvs) ∧ Paired (RuAt H) kvs pd.rules
  d1 : A.sg ≠ A.md
  d2 : A.sg ≠ A.rb
  d3 : A.md ≠ A.rb
structure Away (A : PA) (G : Hp) : Prop where
  p : G A.p = none
  sg : G A.sg = none
  md : G A.md = none
  rb : G A.rb = none
  pt : G A.pt = none
  rl : G A.rl = none
section
variable {a : Adr} {H H' : Hp} {A : PA} {pd : PlanD}
theorem PlanAt.mono (s : Same H H') (h : PlanAt a H A pd) : PlanAt a H' A pd := by
  obtain ⟨dx, h1⟩ := h.ob
  obtain ⟨qs, h2, h3⟩ := h.rb
  obtain ⟨kvs, h4, h5⟩ := h.rl
  exact ⟨⟨dx, s _ _ h1⟩, s _ _ h.sg, s _ _ h.md, ⟨qs, s _ _ h2, Paired.mapP h3 fun _ _ e => s _ _ e⟩, s _ _ h.pt,
    ⟨kvs, s _ _ h4, Paired.mapP h5 fun _ _ e => ⟨e.1, let ⟨q, e1, e2⟩ := e.2; ⟨q, e1, s _ _ e2⟩⟩⟩, h.d1, h.d2, h.d3⟩
/-- the plan where the object at x, none of these, has changed -/
theorem PlanAt.other {x : Addr} {o : HO} (h : PlanAt a H A pd) (h1 : A.p ≠ x) (h2 : A.sg ≠ x) (h3 : A.md ≠ x) (h4 : A.rb ≠ x) (h5 : A.pt ≠ x) (h6 : A.rl ≠ x) (ht : ∀ q xs, H q = some (.tup xs) → q ≠ x) : PlanAt a (upd H x o) A pd := by
  obtain ⟨dx, g1⟩ := h.ob
  obtain ⟨qs, g2, g3⟩ := h.rb
  obtain ⟨kvs, g4, g5⟩ := h.rl
  exact ⟨⟨dx, upd_kept g1 h1⟩, upd_kept h.sg h2, upd_kept h.md h3, ⟨qs, upd_kept g2 h4, Paired.mapP g3 fun _ _ e => upd_kept e (ht _ _ e)⟩, upd_kept h.pt h5,
    ⟨kvs, upd_kept g4 h6, Paired.mapP g5 fun _ _ e => ⟨e.1, let ⟨q, e1, e2⟩ := e.2; ⟨q, e1, upd_kept e2 (ht _ _ e2)⟩⟩⟩, h.d1, h.d2, h.d3⟩
theorem PlanAt.setSg {ns : List Str} (h : PlanAt a H A pd) : PlanAt a (upd H A.sg (.lst (ns.map V.str))) A { pd with signs := ns } := by
  obtain ⟨dx, g1⟩ := h.ob
  obtain ⟨qs, g2, g3⟩ := h.rb
  obtain ⟨kvs, g4, g5⟩ := h.rl
  have ht : ∀ q xs, H q = some (.tup xs) → q ≠ A.sg := fun q xs e => ne_of e h.sg (by intro z; cases z)
  exact ⟨⟨dx, upd_kept g1 (ne_of g1 h.sg (by intro z; cases z))⟩, upd_same, upd_kept h.md h.d1.symm, ⟨qs, upd_kept g2 h.d2.symm, Paired.mapP g3 fun _ _ e => upd_kept e (ht _ _ e)⟩, upd_kept h.pt (ne_of h.pt h.sg (by intro z; cases z)),
    ⟨kvs, upd_kept g4 (ne_of g4 h.sg (by intro z; cases z)), Paired.mapP g5 fun _ _ e => ⟨e.1, let ⟨q, e1, e2⟩ := e.2; ⟨q, e1, upd_kept e2 (ht _ _ e2)⟩⟩⟩, h.d1, h.d2, h.d3⟩
theorem PlanAt.setMd {ns : List Str} (h : PlanAt a H A pd) : PlanAt a (upd H A.md (.lst (ns.map V.str))) A { pd with moods := ns } := by
  obtain ⟨dx, g1⟩ := h.ob
  obtain ⟨qs, g2, g3⟩ := h.rb
  obtain ⟨kvs, g4, g5⟩ := h.rl
  have ht : ∀ q xs, H q = some (.tup xs) → q ≠ A.md := fun q xs e => ne_of e h.md (by intro z; cases z)
  exact ⟨⟨dx, upd_kept g1 (ne_of g1 h.md (by intro z; cases z))⟩, upd_kept h.sg h.d1, upd_same, ⟨qs, upd_kept g2 h.d3.symm, Paired.mapP g3 fun _ _ e => upd_kept e (ht _ _ e)⟩, upd_kept h.pt (ne_of h.pt h.md (by intro z; cases z)),
    ⟨kvs, upd_kept g4 (ne_of g4 h.md (by intro z; cases z)), Paired.mapP g5 fun _ _ e => ⟨e.1, let ⟨q, e1, e2⟩ := e.2; ⟨q, e1, upd_kept e2 (ht _ _ e2)⟩⟩⟩, h.d1, h.d2, h.d3⟩
theorem PlanAt.addRb {qs : List Addr} {q : Addr} {r : Int × Nat} (h : PlanAt a H A pd) (g2 : H A.rb = some (.lst (qs.map V.ref))) (g3 : Paired (RbAt H) qs pd.robots) (hq : RbAt H q r) :
    PlanAt a (upd H A.rb (.lst (qs.map V.ref ++ [V.ref q]))) A { pd with robots := pd.robots ++ [r] } := by
  obtain ⟨dx, g1⟩ := h.ob
  obtain ⟨kvs, g4, g5⟩ := h.rl
  have ht : ∀ q xs, H q = some (.tup xs) → q ≠ A.rb := fun q xs e => ne_of e g2 (by intro z; cases z)
  exact ⟨⟨dx, upd_kept g1 (ne_of g1 g2 (by intro z; cases z))⟩, upd_kept h.sg h.d2, upd_kept h.md h.d3, ⟨qs ++ [q], by rw [upd_same, List.map_append]; rfl, Paired.mapP (Paired.snoc g3 hq) fun _ _ e => upd_kept e (ht _ _ e)⟩,
    upd_kept h.pt (ne_of h.pt g2 (by intro z; cases z)), ⟨kvs, upd_kept g4 (ne_of g4 g2 (by intro z; cases z)), Paired.mapP g5 fun _ _ e => ⟨e.1, let ⟨q, e1, e2⟩ := e.2; ⟨q, e1, upd_kept e2 (ht _ _ e2)⟩⟩⟩, h.d1, h.d2, h.d3⟩
theorem PlanAt.setPt {l : List (Int × Nat)} (h : PlanAt a H A pd) : PlanAt a (upd H A.pt (.dK (ptV l))) A { pd with puts := l } := by
  obtain ⟨dx, g1⟩ := h.ob
  obtain ⟨qs, g2, g3⟩ := h.rb
  obtain ⟨kvs, g4, g5⟩ := h.rl
  have ht : ∀ q xs, H q = some (.tup xs) → q ≠ A.pt := fun q xs e => ne_of e h.pt (by intro z; cases z)
  exact ⟨⟨dx, upd_kept g1 (ne_of g1 h.pt (by intro z; cases z))⟩, upd_kept h.sg (ne_of h.sg h.pt (by intro z; cases z)), upd_kept h.md (ne_of h.md h.pt (by intro z; cases z)), ⟨qs, upd_kept g2 (ne_of g2 h.pt (by intro z; cases z)), Paired.mapP g3 fun _ _ e => upd_kept e (ht _ _ e)⟩, upd_same,
    ⟨kvs, upd_kept g4 (ne_of g4 h.pt (by intro z; cases z)), Paired.mapP g5 fun _ _ e => ⟨e.1, let ⟨q, e1, e2⟩ := e.2; ⟨q, e1, upd_kept e2 (ht _ _ e2)⟩⟩⟩, h.d1, h.d2, h.d3⟩
theorem PlanAt.addRl {kvs : List (List Key × V)} {kv : List Key × V} {r : (Nat × Nat) × Nat × Nat × Nat} (h : PlanAt a H A pd) (g4 : H A.rl = some (.dT kvs)) (g5 : Paired (RuAt H) kvs pd.rules) (hq : RuAt H kv r) :
    PlanAt a (upd H A.rl (.dT (kvs ++ [kv]))) A { pd with rules := pd.rules ++ [r] } := by
  obtain ⟨dx, g1⟩ := h.ob
  obtain ⟨qs, g2, g3⟩ := h.rb
  have ht : ∀ q xs, H q = some (.tup xs) → q ≠ A.rl := fun q xs e => ne_of e g4 (by intro z; cases z)
  exact ⟨⟨dx, upd_kept g1 (ne_of g1 g4 (by intro z; cases z))⟩, upd_kept h.sg (ne_of h.sg g4 (by intro z; cases z)), upd_kept h.md (ne_of h.md g4 (by intro z; cases z)), ⟨qs, upd_kept g2 (ne_of g2 g4 (by intro z; cases z)), Paired.mapP g3 fun _ _ e => upd_kept e (ht _ _ e)⟩,
    upd_kept h.pt (ne_of h.pt g4 (by intro z; cases z)), ⟨kvs ++ [kv], upd_same, Paired.mapP (Paired.snoc g5 hq) fun _ _ e => ⟨e.1, let ⟨q, e1, e2⟩ := e.2; ⟨q, e1, upd_kept e2 (ht _ _ e2)⟩⟩⟩, h.d1, h.d2, h.d3⟩
theorem PlanAt.setSize {n : Int} {dx : Addr} (h : PlanAt a H A pd) (g1 : H A.p = some (.ins a.cPlan dx (plFs A pd.size))) : PlanAt a (upd H A.p (.ins a.cPlan dx (plFs A n))) A { pd with size := n } := by
  obtain ⟨qs, g2, g3⟩ := h.rb
  obtain ⟨kvs, g4, g5⟩ := h.rl
  have ht : ∀ q xs, H q = some (.tup xs) → q ≠ A.p := fun q xs e => ne_of e g1 (by intro z; cases z)
  exact ⟨⟨dx, upd_same⟩, upd_kept h.sg (ne_of h.sg g1 (by intro z; cases z)), upd_kept h.md (ne_of h.md g1 (by intro z; cases z)), ⟨qs, upd_kept g2 (ne_of g2 g1 (by intro z; cases z)), Paired.mapP g3 fun _ _ e => upd_kept e (ht _ _ e)⟩,
    upd_kept h.pt (ne_of h.pt g1 (by intro z; cases z)), ⟨kvs, upd_kept g4 (ne_of g4 g1 (by intro z; cases z)), Paired.mapP g5 fun _ _ e => ⟨e.1, let ⟨q, e1, e2⟩ := e.2; ⟨q, e1, upd_kept e2 (ht _ _ e2)⟩⟩⟩, h.d1, h.d2, h.d3⟩
end
/-! ### small defs -/
def sp_require (K : PySem.W.Frag) (a : Adr) : Sp := fun vs H Q _ => ∃ x y, vs = [.bl true, x, y] ∧ Q .non H
def sp_tile_of (K : PySem.W.Frag) (a : Adr) : Sp := fun vs H Q _ => ∃ (A : PA) (pd : PlanD) (q : Addr) (t : Tk) (n : Int), vs = [.ref A.p, .ref q] ∧ PlanAt a H A pd ∧ TkAt a H q t ∧ tileM pd t = some n ∧ t.text.length ≤ 600 ∧ Q (.int n) H
def sp_number_of (K : PySem.W.Frag) (a : Adr) : Sp := fun vs H Q _ => ∃ (l q : Addr) (ns : List Str) (t : Tk) (i : Nat), vs = [.ref l, .ref q] ∧ H l = some (.lst (ns.map V.str)) ∧ TkAt a H q t ∧ idxM ns t = some i ∧ Q (.int (i : Int)) H
def spAdd (a : Adr) (kind : Str) : Sp := fun vs H Q _ => ∃ (A : PA) (pd pd' : PlanD) (G : Hp) (q pl : Addr) (st : Stm), vs = [.ref A.p, .ref q] ∧ PlanAt a H A pd ∧ Away A G ∧ Same G H ∧ StAt a G q pl st ∧ st.word.kind = kind ∧ addM pd st = some pd' ∧
  (∀ t ∈ st.parts, t.text.length ≤ 600) ∧ st.parts.length ≤ 1000 ∧ pd.puts.length ≤ 90000 ∧ pd.rules.length ≤ 90000 ∧ ∀ H', PlanAt a H' A pd' → Same G H' → Q .non H'
def sp_add_corridor (K : PySem.W.Frag) (a : Adr) : Sp := spAdd a "corridor"
def sp_add_signs (K : PySem.W.Frag) (a : Adr) : Sp := spAdd a "signs"
def sp_add_moods (K : PySem.W.Frag) (a : Adr) : Sp := spAdd a "moods"
def sp_add_robot (K : PySem.W.Frag) (a : Adr) : Sp := spAdd a "robot"
def sp_add_put (K : PySem.W.Frag) (a : Adr) : Sp := spAdd a "put"
def sp_add_rule (K : PySem.W.Frag) (a : Adr) : Sp := spAdd a "when"
section
variable {P : Program} {w : World} {K : PySem.W.Frag} {mg : Str → Option Value} {base : Heap} {a : Adr}
theorem ok_require {f : Addr} {fd : FuncData} (F : Fun K "require" "require" s_require f fd) (T : Txt w K mg a)
     :
    FnOk P w K mg base CX0 1 f fd ps_require (sp_require K a) := by
  refine F.ok sc_require (fun vs H Q E h => ?_) (fun cdv A outer s H vs Q E hr h => ?_)
  · obtain ⟨x, y, rfl, k⟩ := h
    rfl
  obtain ⟨x, y, rfl, k⟩ := h
  have hu := hu_of hr
  refine ⟨_, 
    (pss_one (ps_if (pt_not (pt_val (pv 0))) 
      (pss_one ps_never) pss_nil)), ?_⟩
  repeat walk_at "st"
  refine iteF ?_
  repeat walk_at "st"
  exact k
theorem ok_tile_of {f : Addr} {fd : FuncData} (F : Fun K "tile_of" "tile_of" s_tile_of f fd) (T : Txt w K mg a)
    {f_require : Addr} {fd_require : FuncData} (G_require : Cal P w K mg base "require" 1 f_require fd_require ps_require (sp_require K a)) :
    FnOk P w K mg base CX0 2 f fd ps_tile_of (sp_tile_of K a) := by
  refine F.ok sc_tile_of (fun vs H Q E h => ?_) (fun cdv A outer s H vs Q E hr h => ?_)
  · obtain ⟨A, pd, q, t, n, rfl, hA, ⟨dt, ht⟩, hn, hl, k⟩ := h
    rfl
  obtain ⟨A, pd, q, t, n, rfl, hA, ⟨dt, ht⟩, hn, hl, k⟩ := h
  have hu := hu_of hr
  refine ⟨_, 
    (pss_cons (ps_set (i := 2) sc_tile_of.nd rfl (.inl rfl) (pe_callTy call_int_str (by rfl) T.n_int (by decide +kernel) (pa_cons (pe_fld (pv 1) rfl) pa_nil))) 
    (pss_cons (ps_expr (pe_call G_require.ok (hr.mono (by decide)) rfl G_require.mg' G_require.kp G_require.b .nil pass0 (pa_cons (pe_cmpR op_lt (pv 2) (pe_fld (pv 0) rfl) (nomark _)) (pa_cons pe_str (pa_cons (pv 1) pa_nil))))) 
    (pss_one (ps_ret (pv 2))))), ?_⟩
  obtain ⟨dx, hp⟩ := hA.ob
  unfold tileM at hn
  cases e : PySem.intText? t.text with
  | none => rw [e] at hn; cases hn
  | some n' =>
    rw [e] at hn
    dsimp only at hn
    by_cases hlt : n' < pd.size
    · rw [if_pos hlt] at hn
      cases hn
      repeat walk_at "st"
      refine r_fldOf ht T.cl_Token T.n_Token_text rfl ?_
      repeat walk_at "st"
      refine ⟨_, _, rfl, e, Nat.le_trans hl (by decide), ?_⟩
      repeat walk_at "st"
      refine r_fldOf hp T.cl_Plan T.n_Plan_size rfl ?_
      repeat walk_at "st"
      rw [decide_eq_true hlt]
      refine ⟨_, _, rfl, ?_⟩
      repeat walk_at "st"
      exact k
    · rw [if_neg hlt] at hn; cases hn
theorem ok_number_of {f : Addr} {fd : FuncData} (F : Fun K "number_of" "number_of" s_number_of f fd) (T : Txt w K mg a)
    {f_require : Addr} {fd_require : FuncData} (G_require : Cal P w K mg base "require" 1 f_require fd_require ps_require (sp_require K a)) :
    FnOk P w K mg base CX0 2 f fd ps_number_of (sp_number_of K a) := by
  refine F.ok sc_number_of (fun vs H Q E h => ?_) (fun cdv A outer s H vs Q E hr h => ?_)
  · obtain ⟨l, q, ns, t, i, rfl, hl, ⟨dt, ht⟩, hi, k⟩ := h
    rfl
  obtain ⟨l, q, ns, t, i, rfl, hl, ⟨dt, ht⟩, hi, k⟩ := h
  have hu := hu_of hr
  refine ⟨_, 
    (pss_cons (ps_expr (pe_call G_require.ok (hr.mono (by decide)) rfl G_require.mg' G_require.kp G_require.b .nil pass0 (pa_cons (pe_cmpR op_in_seq (pe_fld (pv 1) rfl) (pv 0) rfl) (pa_cons pe_str (pa_cons (pv 1) pa_nil))))) 
    (pss_one (ps_ret (pe_bm PySem.F.plainAttrs_list PySem.F.slot_list_index PySem.F.type_list_index mt_index (pv 0) (pa_cons (pe_fld (pv 1) rfl) pa_nil))))), ?_⟩
  unfold idxM at hi
  by_cases hm : t.text ∈ ns
  · rw [if_pos hm] at hi
    cases hi
    repeat walk_at "st"
    refine r_fldOf ht T.cl_Token T.n_Token_text rfl ?_
    repeat walk_at "st"
    refine r_inSeq (xs := ns.map V.str) (.inl (SqL.of hl)) rfl (flat_strs' _) ?_
    rw [inV_strs, decide_eq_true hm]
    repeat walk_at "st"
    refine ⟨_, _, rfl, ?_⟩
    repeat walk_at "st"
    refine r_tyL (SqL.of hl) ?_
    repeat walk_at "st"
    refine r_fldOf ht T.cl_Token T.n_Token_text rfl ?_
    repeat walk_at "st"
    refine ⟨l, ns.map V.str, .str t.text, ns.idxOf t.text, .str t.text, rfl, rfl, SqL.of hl, rfl, flat_strs' _, ?_, ?_, ?_, ?_⟩
    · rw [List.getElem?_map, idx_get ns _ hm]; rfl
    · show (t.text == t.text) = true; simp
    · intro m z' hlt hz
      rw [List.getElem?_map] at hz
      cases hz2 : ns[m]? with
      | none => rw [hz2] at hz; cases hz
      | some y =>
        rw [hz2] at hz
        cases hz
        show (y == t.text) = false
        rw [beq_eq_false_iff_ne]
        exact idx_first ns _ y m hlt hz2
    · repeat walk_at "st"
      exact k
  · rw [if_neg hm] at hi; cases hi
theorem Away.same {A : PA} {G H : Hp} {x : Addr} {o : HO} (s : Same G H) (n : G x = none) : Same G (upd H x o) := Same.mut s n
theorem ok_add_corridor {f : Addr} {fd : FuncData} (F : Fun K "add_corridor" "add_corridor" s_add_corridor f fd) (T : Txt w K mg a)
    {f_require : Addr} {fd_require : FuncData} (G_require : Cal P w K mg base "require" 1 f_require fd_require ps_require (sp_require K a)) :
    FnOk P w K mg base CX0 2 f fd ps_add_corridor (sp_add_corridor K a) := by
  refine F.ok sc_add_corridor (fun vs H Q E h => ?_) (fun cdv A outer s H vs Q E hr h => ?_)
  · obtain ⟨A, pd, pd', G, q, pl, st, rfl, hA, aw, sG, ⟨dx, wq, ps, h1, h2, h3, h4⟩, hk, hadd, htl, hpl, _, _, k⟩ := h
    rfl
  obtain ⟨A, pd, pd', G, q, pl, st, rfl, hA, aw, sG, ⟨dx, wq, ps, h1, h2, h3, h4⟩, hk, hadd, htl, hpl, _, _, k⟩ := h
  have hu := hu_of hr
  refine ⟨_, 
    (pss_cons (ps_set (i := 2) sc_add_corridor.nd rfl (.inl rfl) (pe_ix ix_list (pe_fld (pv 1) rfl) pe_int (fun _ _ => rfl))) 
    (pss_cons (ps_fld (pv 0) (pe_callTy call_int_str (by rfl) T.n_int (by decide +kernel) (pa_cons (pe_fld (pv 2) rfl) pa_nil)) rfl) 
    (pss_one (ps_expr (pe_call G_require.ok (hr.mono (by decide)) rfl G_require.mg' G_require.kp G_require.b .nil pass0 (pa_cons (pe_chain op_le op_le pe_int (pe_fld (pv 0) rfl) (pgI rfl T.g_MOST_TILES)) (pa_cons pe_str (pa_cons (pv 2) pa_nil)))))))), ?_⟩
  obtain ⟨dp, hp⟩ := hA.ob
  unfold addM at hadd
  rw [if_pos hk] at hadd
  repeat walk_at "st"
  refine r_fldOf (sG _ _ h1) T.cl_Statement T.n_Statement_parts rfl ?_
  repeat walk_at "st"
  cases hst : st.parts with
  | nil => rw [hst] at hadd; cases hadd
  | cons n r =>
    rw [hst] at hadd h4 htl
    dsimp only at hadd
    cases h4 with
    | @cons qn _ psr _ g1 g2 =>
      obtain ⟨dn, hn⟩ := g1
      cases e : PySem.intText? n.text with
      | none => rw [e] at hadd; cases hadd
      | some kk =>
        rw [e] at hadd
        dsimp only at hadd
        by_cases hb : 1 ≤ kk ∧ kk ≤ 16
        · rw [if_pos hb] at hadd
          cases hadd
          refine r_ixL (SqL.of (sG _ _ h3)) (atI_nat (j := 0) rfl) ?_
          repeat walk_at "st"
          refine r_fldOf (sG _ _ hn) T.cl_Token T.n_Token_text rfl ?_
          repeat walk_at "st"
          refine ⟨_, _, rfl, e, Nat.le_trans (htl n (by simp)) (by decide), ?_⟩
          repeat walk_at "st"
          refine r_sfldOf hp T.cl_Plan T.n_Plan_size (by show 6 < 1000; decide) ?_
          have e2 : putF "size" (.int kk) (plFs A pd.size) = plFs A kk := by
            unfold plFs; simp only [putF, if_true]
          rw [e2]
          have hA' := hA.setSize (n := kk) hp
          have s' : Same G _ := Same.mut (o := .ins a.cPlan dp (plFs A kk)) sG aw.p
          repeat walk_at "st"
          refine r_fldOf upd_same T.cl_Plan T.n_Plan_size rfl ?_
          repeat walk_at "st"
          rw [decide_eq_true hb.1]
          refine iteT ?_
          repeat walk_at "st"
          rw [decide_eq_true hb.2]
          refine ⟨_, _, rfl, ?_⟩
          repeat walk_at "st"
          exact k _ hA' s'
        · rw [if_neg hb] at hadd; cases hadd
theorem kw_ne1 : ¬ (("signs" : Str) = "corridor") := by decide +kernel
theorem kw_ne2 : ¬ (("moods" : Str) = "corridor") ∧ ¬ (("moods" : Str) = "signs") := by decide +kernel
theorem kw_ne3 : ¬ (("robot" : Str) = "corridor") ∧ ¬ (("robot" : Str) = "signs") ∧ ¬ (("robot" : Str) = "moods") := by decide +kernel
theorem kw_ne4 : ¬ (("put" : Str) = "corridor") ∧ ¬ (("put" : Str) = "signs") ∧ ¬ (("put" : Str) = "moods") ∧ ¬ (("put" : Str) = "robot") := by decide +kernel
theorem kw_ne5 : ¬ (("when" : Str) = "corridor") ∧ ¬ (("when" : Str) = "signs") ∧ ¬ (("when" : Str) = "moods") ∧ ¬ (("when" : Str) = "robot") ∧ ¬ (("when" : Str) = "put") := by decide +kernel
/-- names added to the list at l; every other object stays -/
def sp_add_names (K : PySem.W.Frag) (a : Adr) : Sp := fun vs H Q _ => ∃ (l tl : Addr) (most : Nat) (z : Str) (ns ns' : List Str) (ps : List Addr) (ts : List Tk), vs = [.ref l, .int (most : Int), .str z, .ref tl] ∧ l ≠ tl ∧ H l = some (.lst (ns.map V.str)) ∧ H tl = some (.lst (ps.map V.ref)) ∧ TksAt a H ps ts ∧
  addNamesM most ns ts = some ns' ∧ most ≤ 6 ∧ ∀ H', H' = upd H l (.lst (ns'.map V.str)) → Q .non H'
theorem TkAt.updL {H : Hp} {l q : Addr} {t : Tk} {xs ys : List V} (hl : H l = some (.lst xs)) (h : TkAt a H q t) : TkAt a (upd H l (.lst ys)) q t := upd_lstTk hl h
theorem ok_add_names {f : Addr} {fd : FuncData} (F : Fun K "add_names" "add_names" s_add_names f fd) (T : Txt w K mg a)
    {f_require : Addr} {fd_require : FuncData} (G_require : Cal P w K mg base "require" 1 f_require fd_require ps_require (sp_require K a)) :
    FnOk P w K mg base CX0 2 f fd ps_add_names (sp_add_names K a) := by
  refine F.ok sc_add_names (fun vs H Q E h => ?_) (fun cdv A outer s H vs Q E hr h => ?_)
  · obtain ⟨l, tl, most, z, ns, ns', ps, ts, rfl, hne, hl, htl, hts, hadd, hmost, k⟩ := h
    rfl
  obtain ⟨l, tl, most, z, ns, ns', ps, ts, rfl, hne, hl, htl, hts, hadd, hmost, k⟩ := h
  have hu := hu_of hr
  refine ⟨_, 
    (pss_one (ps_for PassesOwn.never rfl (pi_list (pv 3)) (pg_name (i := 4) sc_add_names.nd rfl (.inl rfl)) 
      (pss_cons (ps_expr (pe_call G_require.ok (hr.mono (by decide)) rfl G_require.mg' G_require.kp G_require.b .nil pass0 (pa_cons (pe_cmpR op_notIn_seq (pe_fld (pv 4) rfl) (pv 0) rfl) (pa_cons pe_str (pa_cons (pv 4) pa_nil))))) 
      (pss_cons (ps_expr (pe_call G_require.ok (hr.mono (by decide)) rfl G_require.mg' G_require.kp G_require.b .nil pass0 (pa_cons (pe_cmpR op_lt (pe_callB call_len_seq (by rfl) T.n_len PySem.boot_len (pa_cons (pv 0) pa_nil)) (pv 1) (nomark _)) (pa_cons (pv 2) (pa_cons (pv 4) pa_nil))))) 
      (pss_one (ps_expr (pe_bm PySem.F.plainAttrs_list PySem.F.slot_list_append PySem.F.type_list_append mt_append (pv 0) (pa_cons (pe_fld (pv 4) rfl) pa_nil)))))))), ?_⟩
  repeat walk_at "st"
  refine r_itL (SqL.of htl) ?_
  have hlen := PySem.Paired.length hts
  refine for_list (xs := ps.map V.ref) (fun i σ H1 => ∃ ns1, H1 = upd H l (.lst (ns1.map V.str)) ∧ addNamesM most ns1 (ts.drop i) = some ns' ∧ ∃ x, σ = [some (.ref l), some (.int (most : Int)), some (.str z), some (.ref tl), x])
    ⟨ns, (by funext b; by_cases e : b = l; · subst e; rw [upd_same, hl]
             · rw [upd_ne e]), hadd, _, rfl⟩ ?_ ?_ ?_
  · rintro i σ H1 _ ⟨ns1, rfl, _⟩
    exact SqL.of (upd_kept htl hne.symm)
  · rintro i x σ H1 hx ⟨ns1, rfl, h1, x0, rfl⟩
    rw [List.getElem?_map] at hx
    cases hq : ps[i]? with
    | none => rw [hq] at hx; cases hx
    | some q =>
      rw [hq] at hx
      cases hx
      obtain ⟨t, ht, htk⟩ := paired_get hts hq
      obtain ⟨hi, e⟩ := List.getElem?_eq_some_iff.mp ht
      rw [List.drop_eq_getElem_cons hi, e] at h1
      unfold addNamesM at h1
      obtain ⟨dt, hdt⟩ := TkAt.updL (ys := ns1.map V.str) hl htk
      by_cases hm : t.text ∈ ns1
      · rw [if_pos hm] at h1; cases h1
      rw [if_neg hm] at h1
      by_cases hl2 : ns1.length < most
      · rw [if_pos hl2] at h1
        repeat walk_at "st"
        refine r_fldOf hdt T.cl_Token T.n_Token_text rfl ?_
        repeat walk_at "st"
        refine r_inSeq (xs := ns1.map V.str) (.inl (SqL.of upd_same)) rfl (flat_strs' _) ?_
        rw [inV_strs, decide_eq_false hm]
        repeat walk_at "st"
        refine ⟨_, _, rfl, ?_⟩
        repeat walk_at "st"
        refine r_lenL (.inl (SqL.of upd_same)) ?_
        repeat walk_at "st"
        rw [List.length_map, decide_eq_true (show ((ns1.length : Nat) : Int) < (most : Nat) by omega)]
        refine ⟨_, _, rfl, ?_⟩
        repeat walk_at "st"
        refine r_tyL (SqL.of upd_same) ?_
        repeat walk_at "st"
        refine r_fldOf hdt T.cl_Token T.n_Token_text rfl ?_
        repeat walk_at "st"
        refine r_app upd_same (by rw [List.length_map]; exact Nat.lt_of_le_of_lt (show ns1.length ≤ 6 by omega) (by decide)) ?_
        repeat walk_at "st"
        exact ⟨ns1 ++ [t.text], by rw [upd_upd, List.map_append]; rfl, h1, _, rfl⟩
      · rw [if_neg hl2] at h1; cases h1
  · rintro σ H1 ⟨ns1, rfl, h1, x0, rfl⟩
    rw [List.length_map, hlen, List.drop_length] at h1
    unfold addNamesM at h1
    cases h1
    exact k _ rfl
theorem ok_add_signs {f : Addr} {fd : FuncData} (F : Fun K "add_signs" "add_signs" s_add_signs f fd) (T : Txt w K mg a)
    {f_add_names : Addr} {fd_add_names : FuncData} (G_add_names : Cal P w K mg base "add_names" 2 f_add_names fd_add_names ps_add_names (sp_add_names K a)) :
    FnOk P w K mg base CX0 3 f fd ps_add_signs (sp_add_signs K a) := by
  refine F.ok sc_add_signs (fun vs H Q E h => ?_) (fun cdv A outer s H vs Q E hr h => ?_)
  · obtain ⟨A, pd, pd', G, q, pl, st, rfl, hA, aw, sG, ⟨dx, wq, ps, h1, h2, h3, h4⟩, hk, hadd, htl, hpl, _, _, k⟩ := h
    rfl
  obtain ⟨A, pd, pd', G, q, pl, st, rfl, hA, aw, sG, ⟨dx, wq, ps, h1, h2, h3, h4⟩, hk, hadd, htl, hpl, _, _, k⟩ := h
  have hu := hu_of hr
  refine ⟨_, 
    (pss_one (ps_expr (pe_call G_add_names.ok (hr.mono (by decide)) rfl G_add_names.mg' G_add_names.kp G_add_names.b .nil pass0 (pa_cons (pe_fld (pv 0) rfl) (pa_cons (pgI rfl T.g_MOST_SIGNS) (pa_cons pe_str (pa_cons (pe_fld (pv 1) rfl) pa_nil))))))), ?_⟩
  obtain ⟨dp, hp⟩ := hA.ob
  unfold addM at hadd
  rw [hk, if_neg kw_ne1, if_pos rfl] at hadd
  cases e : addNamesM 4 pd.signs st.parts with
  | none => rw [e] at hadd; cases hadd
  | some ns =>
    rw [e] at hadd
    cases hadd
    repeat walk_at "st"
    refine r_fldOf hp T.cl_Plan T.n_Plan_signs rfl ?_
    repeat walk_at "st"
    refine r_fldOf (sG _ _ h1) T.cl_Statement T.n_Statement_parts rfl ?_
    repeat walk_at "st"
    refine ⟨A.sg, pl, 4, _, pd.signs, ns, ps, st.parts, rfl, (ne_of_none h3 aw.sg).symm, hA.sg, sG _ _ h3, h4.mono sG, e, by decide, fun H1 eH => ?_⟩
    subst eH
    exact k _ hA.setSg (Same.mut sG aw.sg)
theorem ok_add_moods {f : Addr} {fd : FuncData} (F : Fun K "add_moods" "add_moods" s_add_moods f fd) (T : Txt w K mg a)
    {f_add_names : Addr} {fd_add_names : FuncData} (G_add_names : Cal P w K mg base "add_names" 2 f_add_names fd_add_names ps_add_names (sp_add_names K a)) :
    FnOk P w K mg base CX0 3 f fd ps_add_moods (sp_add_moods K a) := by
  refine F.ok sc_add_moods (fun vs H Q E h => ?_) (fun cdv A outer s H vs Q E hr h => ?_)
  · obtain ⟨A, pd, pd', G, q, pl, st, rfl, hA, aw, sG, ⟨dx, wq, ps, h1, h2, h3, h4⟩, hk, hadd, htl, hpl, _, _, k⟩ := h
    rfl
  obtain ⟨A, pd, pd', G, q, pl, st, rfl, hA, aw, sG, ⟨dx, wq, ps, h1, h2, h3, h4⟩, hk, hadd, htl, hpl, _, _, k⟩ := h
  have hu := hu_of hr
  refine ⟨_, 
    (pss_one (ps_expr (pe_call G_add_names.ok (hr.mono (by decide)) rfl G_add_names.mg' G_add_names.kp G_add_names.b .nil pass0 (pa_cons (pe_fld (pv 0) rfl) (pa_cons (pgI rfl T.g_MOST_MOODS) (pa_cons pe_str (pa_cons (pe_fld (pv 1) rfl) pa_nil))))))), ?_⟩
  obtain ⟨dp, hp⟩ := hA.ob
  unfold addM at hadd
  rw [hk, if_neg kw_ne2.1, if_neg kw_ne2.2, if_pos rfl] at hadd
  cases e : addNamesM 6 pd.moods st.parts with
  | none => rw [e] at hadd; cases hadd
  | some ns =>
    rw [e] at hadd
    cases hadd
    repeat walk_at "st"
    refine r_fldOf hp T.cl_Plan T.n_Plan_moods rfl ?_
    repeat walk_at "st"
    refine r_fldOf (sG _ _ h1) T.cl_Statement T.n_Statement_parts rfl ?_
    repeat walk_at "st"
    refine ⟨A.md, pl, 6, _, pd.moods, ns, ps, st.parts, rfl, (ne_of_none h3 aw.md).symm, hA.md, sG _ _ h3, h4.mono sG, e, by decide, fun H1 eH => ?_⟩
    subst eH
    exact k _ hA.setMd (Same.mut sG aw.md)


theorem side_ix {z : Str} {d : Nat} (h : sideM z = some d) : SIDESs[d]? = some z ∧ ∀ m, m < d → SIDESs[m]? ≠ some z := by
  unfold sideM at h
  by_cases h1 : z = "left"
  · rw [if_pos h1] at h; cases h; subst h1
    exact ⟨rfl, fun m hm => absurd hm (Nat.not_lt_zero _)⟩
  · rw [if_neg h1] at h
    by_cases h2 : z = "right"
    · rw [if_pos h2] at h; cases h; subst h2
      refine ⟨rfl, fun m hm => ?_⟩
      have : m = 0 := by omega
      subst this
      intro e
      exact h1 (Option.some.inj e).symm
    · rw [if_neg h2] at h; cases h
theorem move_ix {z : Str} {d : Nat} (h : moveM z = some d) : MOVESs[d]? = some z ∧ ∀ m, m < d → MOVESs[m]? ≠ some z := by
  unfold moveM at h
  by_cases h1 : z = "on"
  · rw [if_pos h1] at h; cases h; subst h1
    exact ⟨rfl, fun m hm => absurd hm (Nat.not_lt_zero _)⟩
  · rw [if_neg h1] at h
    by_cases h2 : z = "back"
    · rw [if_pos h2] at h; cases h; subst h2
      refine ⟨rfl, fun m hm => ?_⟩
      have : m = 0 := by omega
      subst this
      intro e
      exact h1 (Option.some.inj e).symm
    · rw [if_neg h2] at h
      by_cases h3 : z = "stay"
      · rw [if_pos h3] at h; cases h; subst h3
        refine ⟨rfl, fun m hm => ?_⟩
        match m, hm with
        | 0, _ => intro e; exact h1 (Option.some.inj e).symm
        | 1, _ => intro e; exact h2 (Option.some.inj e).symm
      · rw [if_neg h3] at h; cases h
theorem r_tupIx {H : Hp} {R : Nat → Prop} {p : Addr} {ys : List Str} {z : Str} {j : Nat} (e : SqT K H p (ys.map V.str)) (h1 : ys[j]? = some z ∧ ∀ m, m < j → ys[m]? ≠ some z) (h : R j) :
    ∃ p', ∃ ys' : List Str, ∃ z' j', V.ref p = .ref p' ∧ [V.str z] = [V.str z'] ∧ SqT K H p' (ys'.map V.str) ∧ ys'[j']? = some z' ∧ (∀ m, m < j' → ys'[m]? ≠ some z') ∧ R j' := ⟨p, ys, z, j, rfl, rfl, e, h1.1, h1.2, h⟩
theorem pr_len {H : Hp} {kvs : List (List Key × V)} {l : List ((Nat × Nat) × Nat × Nat × Nat)} (h : Paired (RuAt H) kvs l) : kvs.length = l.length := PySem.Paired.length h
theorem putK_snoc {κ : Type} [DecidableEq κ] {kvs : List (κ × V)} {k : κ} (v : V) (h : valV kvs k = none) : putK kvs k v = kvs ++ [(k, v)] := putK_new v h
theorem ptV_none {l : List (Int × Nat)} {t : Int} (h : ¬ t ∈ l.map (·.1)) : valV (ptV l) (Sum.inl t) = none := by
  induction l with
  | nil => rfl
  | cons x r ih =>
    rw [List.map_cons, List.mem_cons, not_or] at h
    show valV ((Sum.inl x.1, V.int (x.2 : Int)) :: ptV r) (Sum.inl t) = none
    rw [valV_neg (fun e => h.1 (Sum.inl.inj e).symm)]
    exact ih h.2
theorem rl_none {H : Hp} {kvs : List (List Key × V)} {l : List ((Nat × Nat) × Nat × Nat × Nat)} {i j : Nat} (hp : Paired (RuAt H) kvs l) (h : ¬ (i, j) ∈ l.map (·.1)) : valV kvs [Sum.inl (i : Int), Sum.inl (j : Int)] = none := by
  induction hp with
  | nil => rfl
  | @cons kv r kvs l h1 h2 ih =>
    rw [List.map_cons, List.mem_cons, not_or] at h
    rw [valV_neg (fun e => h.1 ?_)]
    · exact ih h.2
    · have e2 := h1.1.symm.trans e
      obtain ⟨⟨x, y⟩, z⟩ := r
      simp only [List.cons.injEq, Sum.inl.injEq, Int.natCast_inj, and_true] at e2
      rw [e2.1, e2.2]
theorem ok_add_robot {f : Addr} {fd : FuncData} (F : Fun K "add_robot" "add_robot" s_add_robot f fd) (T : Txt w K mg a)
    {f_require : Addr} {fd_require : FuncData} (G_require : Cal P w K mg base "require" 1 f_require fd_require ps_require (sp_require K a))
    {f_tile_of : Addr} {fd_tile_of : FuncData} (G_tile_of : Cal P w K mg base "tile_of" 2 f_tile_of fd_tile_of ps_tile_of (sp_tile_of K a)) :
    FnOk P w K mg base CX0 3 f fd ps_add_robot (sp_add_robot K a) := by
  refine F.ok sc_add_robot (fun vs H Q E h => ?_) (fun cdv A outer s H vs Q E hr h => ?_)
  · obtain ⟨A, pd, pd', G, q, pl, st, rfl, hA, aw, sG, ⟨dx, wq, ps, h1, h2, h3, h4⟩, hk, hadd, htl, hpl, _, _, k⟩ := h
    rfl
  obtain ⟨A, pd, pd', G, q, pl, st, rfl, hA, aw, sG, ⟨dx, wq, ps, h1, h2, h3, h4⟩, hk, hadd, htl, hpl, _, _, k⟩ := h
  have hu := hu_of hr
  refine ⟨_, 
    (pss_cons (ps_asg (pe_fld (pv 1) rfl) (pg_lst rfl (pgs_cons (pg_name (i := 2) sc_add_robot.nd rfl (.inl rfl)) (pgs_cons (pg_name (i := 3) sc_add_robot.nd rfl (.inl rfl)) pgs_nil)))) 
    (pss_cons (ps_expr (pe_call G_require.ok (hr.mono (by decide)) rfl G_require.mg' G_require.kp G_require.b .nil pass0 (pa_cons (pe_cmpR op_lt (pe_callB call_len_seq (by rfl) T.n_len PySem.boot_len (pa_cons (pe_fld (pv 0) rfl) pa_nil)) (pgI rfl T.g_MOST_ROBOTS) (nomark _)) (pa_cons pe_str (pa_cons (pe_fld (pv 1) rfl) pa_nil))))) 
    (pss_one (ps_expr (pe_bm PySem.F.plainAttrs_list PySem.F.slot_list_append PySem.F.type_list_append mt_append (pe_fld (pv 0) rfl) (pa_cons (pe_tup (pa_cons (pe_call G_tile_of.ok (hr.mono (by decide)) rfl G_tile_of.mg' G_tile_of.kp G_tile_of.b .nil pass0 (pa_cons (pv 0) (pa_cons (pv 2) pa_nil))) (pa_cons (pe_bm PySem.F.plainAttrs_tuple PySem.F.slot_tuple_index PySem.F.type_tuple_index mt_tup_index (pgR rfl T.g_SIDES) (pa_cons (pe_fld (pv 3) rfl) pa_nil)) pa_nil))) pa_nil)))))), ?_⟩
  obtain ⟨dp, hp⟩ := hA.ob
  obtain ⟨qs, hrb, hrbs⟩ := hA.rb
  unfold addM at hadd
  rw [hk, if_neg kw_ne3.1, if_neg kw_ne3.2.1, if_neg kw_ne3.2.2, if_pos rfl] at hadd
  split at hadd
  next n s hst =>
    rw [hst] at h4 htl
    by_cases hlt : pd.robots.length < 3
    · rw [if_pos hlt] at hadd
      split at hadd
      next t d ht hd =>
        cases hadd
        cases h4 with
        | @cons qn _ psr _ g1 g2 =>
          cases g2 with
          | @cons qs' _ psr2 _ g3 g4 =>
            cases g4
            have g1' := g1.mono sG
            obtain ⟨ds, hs⟩ := g3.mono sG
            repeat walk_at "st"
            refine r_fldOf (sG _ _ h1) T.cl_Statement T.n_Statement_parts rfl ?_
            refine r_gLst (xs := [V.ref qn, V.ref qs']) (SqL.of (sG _ _ h3)) rfl ?_
            repeat walk_at "st"
            refine r_fldOf hp T.cl_Plan T.n_Plan_robots rfl ?_
            repeat walk_at "st"
            refine r_lenL (.inl (SqL.of hrb)) ?_
            repeat walk_at "st"
            rw [List.length_map, PySem.Paired.length hrbs, decide_eq_true (show ((pd.robots.length : Nat) : Int) < 3 by omega)]
            refine r_fldOf (sG _ _ h1) T.cl_Statement T.n_Statement_word rfl ?_
            repeat walk_at "st"
            refine ⟨_, _, rfl, ?_⟩
            repeat walk_at "st"
            refine r_fldOf hp T.cl_Plan T.n_Plan_robots rfl ?_
            repeat walk_at "st"
            refine r_tyL (SqL.of hrb) ?_
            repeat walk_at "st"
            refine ⟨A, pd, qn, n, t, rfl, hA, g1', ht, htl n (by simp), ?_⟩
            repeat walk_at "st"
            refine ⟨T.t_SIDES.ty, ?_⟩
            repeat walk_at "st"
            refine r_fldOf hs T.cl_Token T.n_Token_text rfl ?_
            repeat walk_at "st"
            refine r_tupIx (ys := SIDESs) T.t_SIDES.sq (side_ix hd) ?_
            repeat walk_at "st"
            refine ⟨by show 2 ≤ sizeLine; decide, fun qt nt => ?_⟩
            repeat walk_at "st"
            have s1 : Same H (upd H qt (.tup [.int t, .int (d : Nat)])) := Same.new nt
            have hA1 := hA.mono s1
            refine r_app (s1 _ _ hrb) (by rw [List.length_map, PySem.Paired.length hrbs]; exact Nat.lt_of_lt_of_le hlt (by decide)) ?_
            exact k _ (hA1.addRb (s1 _ _ hrb) (Paired.mapP hrbs fun _ _ e => s1 _ _ e) upd_same) (Same.mut (sG.trans s1) aw.rb)
      next => cases hadd
    · rw [if_neg hlt] at hadd; cases hadd
  next => cases hadd
theorem ok_add_put {f : Addr} {fd : FuncData} (F : Fun K "add_put" "add_put" s_add_put f fd) (T : Txt w K mg a)
    {f_number_of : Addr} {fd_number_of : FuncData} (G_number_of : Cal P w K mg base "number_of" 2 f_number_of fd_number_of ps_number_of (sp_number_of K a))
    {f_tile_of : Addr} {fd_tile_of : FuncData} (G_tile_of : Cal P w K mg base "tile_of" 2 f_tile_of fd_tile_of ps_tile_of (sp_tile_of K a))
    {f_require : Addr} {fd_require : FuncData} (G_require : Cal P w K mg base "require" 1 f_require fd_require ps_require (sp_require K a)) :
    FnOk P w K mg base CX0 3 f fd ps_add_put (sp_add_put K a) := by
  refine F.ok sc_add_put (fun vs H Q E h => ?_) (fun cdv A outer s H vs Q E hr h => ?_)
  · obtain ⟨A, pd, pd', G, q, pl, st, rfl, hA, aw, sG, ⟨dx, wq, ps, h1, h2, h3, h4⟩, hk, hadd, htl, hpl, hpt, _, k⟩ := h
    rfl
  obtain ⟨A, pd, pd', G, q, pl, st, rfl, hA, aw, sG, ⟨dx, wq, ps, h1, h2, h3, h4⟩, hk, hadd, htl, hpl, hpt, _, k⟩ := h
  have hu := hu_of hr
  refine ⟨_, 
    (pss_cons (ps_asg (pe_fld (pv 1) rfl) (pg_lst rfl (pgs_cons (pg_name (i := 2) sc_add_put.nd rfl (.inl rfl)) (pgs_cons (pg_name (i := 3) sc_add_put.nd rfl (.inl rfl)) pgs_nil)))) 
    (pss_cons (ps_set (i := 4) sc_add_put.nd rfl (.inl rfl) (pe_call G_number_of.ok (hr.mono (by decide)) rfl G_number_of.mg' G_number_of.kp G_number_of.b .nil pass0 (pa_cons (pe_fld (pv 0) rfl) (pa_cons (pv 2) pa_nil)))) 
    (pss_cons (ps_set (i := 5) sc_add_put.nd rfl (.inl rfl) (pe_call G_tile_of.ok (hr.mono (by decide)) rfl G_tile_of.mg' G_tile_of.kp G_tile_of.b .nil pass0 (pa_cons (pv 0) (pa_cons (pv 3) pa_nil)))) 
    (pss_cons (ps_expr (pe_call G_require.ok (hr.mono (by decide)) rfl G_require.mg' G_require.kp G_require.b .nil pass0 (pa_cons (pe_cmp (pc_dnotin hu (pv 5) (pe_fld (pv 0) rfl))) (pa_cons pe_str (pa_cons (pv 3) pa_nil))))) 
    (pss_one (ps_dput hu (pe_fld (pv 0) rfl) (pv 5) (pv 4) rfl)))))), ?_⟩
  obtain ⟨dp, hp⟩ := hA.ob
  unfold addM at hadd
  rw [hk, if_neg kw_ne4.1, if_neg kw_ne4.2.1, if_neg kw_ne4.2.2.1, if_neg kw_ne4.2.2.2, if_pos rfl] at hadd
  split at hadd
  next m n hst =>
    rw [hst] at h4 htl
    split at hadd
    next s t hs ht =>
      by_cases hm : t ∈ pd.puts.map (·.1)
      · rw [if_pos hm] at hadd; cases hadd
      · rw [if_neg hm] at hadd
        cases hadd
        cases h4 with
        | @cons qm _ psr _ g1 g2 =>
          cases g2 with
          | @cons qn _ psr2 _ g3 g4 =>
            cases g4
            repeat walk_at "st"
            refine r_fldOf (sG _ _ h1) T.cl_Statement T.n_Statement_parts rfl ?_
            refine r_gLst (xs := [V.ref qm, V.ref qn]) (SqL.of (sG _ _ h3)) rfl ?_
            repeat walk_at "st"
            refine r_fldOf hp T.cl_Plan T.n_Plan_signs rfl ?_
            repeat walk_at "st"
            refine ⟨A.sg, qm, pd.signs, m, s, rfl, hA.sg, g1.mono sG, hs, ?_⟩
            repeat walk_at "st"
            refine ⟨A, pd, qn, n, t, rfl, hA, g3.mono sG, ht, htl n (by simp), ?_⟩
            repeat walk_at "st"
            refine r_fldOf hp T.cl_Plan T.n_Plan_puts rfl ?_
            refine r_dIs (DGet.k (k := Sum.inl t) hA.pt) ?_
            rw [ptV_none hm]
            repeat walk_at "st"
            refine ⟨_, _, rfl, ?_⟩
            repeat walk_at "st"
            refine r_fldOf hp T.cl_Plan T.n_Plan_puts rfl ?_
            repeat walk_at "st"
            refine r_dPutK (k := Sum.inl t) hA.pt (by unfold ptV; rw [List.length_map]; exact Nat.lt_of_le_of_lt hpt (by decide)) ?_
            rw [putK_snoc _ (ptV_none hm)]
            have e : ptV pd.puts ++ [((Sum.inl t : Key), V.int (s : Int))] = ptV (pd.puts ++ [(t, s)]) := by unfold ptV; rw [List.map_append]; rfl
            rw [e]
            exact k _ hA.setPt (Same.mut sG aw.pt)
    next => cases hadd
  next => cases hadd
theorem ok_add_rule {f : Addr} {fd : FuncData} (F : Fun K "add_rule" "add_rule" s_add_rule f fd) (T : Txt w K mg a)
    {f_number_of : Addr} {fd_number_of : FuncData} (G_number_of : Cal P w K mg base "number_of" 2 f_number_of fd_number_of ps_number_of (sp_number_of K a))
    {f_require : Addr} {fd_require : FuncData} (G_require : Cal P w K mg base "require" 1 f_require fd_require ps_require (sp_require K a)) :
    FnOk P w K mg base CX0 3 f fd ps_add_rule (sp_add_rule K a) := by
  refine F.ok sc_add_rule (fun vs H Q E h => ?_) (fun cdv A outer s H vs Q E hr h => ?_)
  · obtain ⟨A, pd, pd', G, q, pl, st, rfl, hA, aw, sG, ⟨dx, wq, ps, h1, h2, h3, h4⟩, hk, hadd, htl, hpl, _, hrl, k⟩ := h
    rfl
  obtain ⟨A, pd, pd', G, q, pl, st, rfl, hA, aw, sG, ⟨dx, wq, ps, h1, h2, h3, h4⟩, hk, hadd, htl, hpl, _, hrl, k⟩ := h
  have hu := hu_of hr
  refine ⟨_, 
    (pss_cons (ps_asg (pe_fld (pv 1) rfl) (pg_lst rfl (pgs_cons (pg_name (i := 2) sc_add_rule.nd rfl (.inl rfl)) (pgs_cons (pg_name (i := 3) sc_add_rule.nd rfl (.inl rfl)) (pgs_cons (pg_name (i := 4) sc_add_rule.nd rfl (.inl rfl)) (pgs_cons (pg_name (i := 5) sc_add_rule.nd rfl (.inl rfl)) (pgs_cons (pg_name (i := 6) sc_add_rule.nd rfl (.inl rfl)) pgs_nil))))))) 
    (pss_cons (ps_set (i := 7) sc_add_rule.nd rfl (.inl rfl) (pe_tup (pa_cons (pe_call G_number_of.ok (hr.mono (by decide)) rfl G_number_of.mg' G_number_of.kp G_number_of.b .nil pass0 (pa_cons (pe_fld (pv 0) rfl) (pa_cons (pv 2) pa_nil))) (pa_cons (pe_call G_number_of.ok (hr.mono (by decide)) rfl G_number_of.mg' G_number_of.kp G_number_of.b .nil pass0 (pa_cons (pe_fld (pv 0) rfl) (pa_cons (pv 3) pa_nil))) pa_nil)))) 
    (pss_cons (ps_expr (pe_call G_require.ok (hr.mono (by decide)) rfl G_require.mg' G_require.kp G_require.b .nil pass0 (pa_cons (pe_cmp (pc_dnotin hu (pv 7) (pe_fld (pv 0) rfl))) (pa_cons pe_str (pa_cons (pe_fld (pv 1) rfl) pa_nil))))) 
    (pss_cons (ps_set (i := 8) sc_add_rule.nd rfl (.inl rfl) (pe_call G_number_of.ok (hr.mono (by decide)) rfl G_number_of.mg' G_number_of.kp G_number_of.b .nil pass0 (pa_cons (pe_fld (pv 0) rfl) (pa_cons (pv 4) pa_nil)))) 
    (pss_one (ps_dput hu (pe_fld (pv 0) rfl) (pv 7) (pe_tup (pa_cons (pv 8) (pa_cons (pe_bm PySem.F.plainAttrs_tuple PySem.F.slot_tuple_index PySem.F.type_tuple_index mt_tup_index (pgR rfl T.g_MOVES) (pa_cons (pe_fld (pv 5) rfl) pa_nil)) (pa_cons (pe_call G_number_of.ok (hr.mono (by decide)) rfl G_number_of.mg' G_number_of.kp G_number_of.b .nil pass0 (pa_cons (pe_fld (pv 0) rfl) (pa_cons (pv 6) pa_nil))) pa_nil)))) rfl)))))), ?_⟩
  obtain ⟨dp, hp⟩ := hA.ob
  unfold addM at hadd
  rw [hk, if_neg kw_ne5.1, if_neg kw_ne5.2.1, if_neg kw_ne5.2.2.1, if_neg kw_ne5.2.2.2.1, if_neg kw_ne5.2.2.2.2, if_pos rfl] at hadd
  split at hadd
  next m s t v n hst =>
    rw [hst] at h4 htl
    split at hadd
    next i j kk d l hi hj hkk hd hll =>
      by_cases hm : (i, j) ∈ pd.rules.map (·.1)
      · rw [if_pos hm] at hadd; cases hadd
      · rw [if_neg hm] at hadd
        cases hadd
        obtain ⟨kvs, hkv, hkvs⟩ := hA.rl
        cases h4 with
        | @cons q1 _ p1 _ g1 g2 =>
        cases g2 with
        | @cons q2 _ p2 _ g3 g4 =>
        cases g4 with
        | @cons q3 _ p3 _ g5 g6 =>
        cases g6 with
        | @cons q4 _ p4 _ g7 g8 =>
        cases g8 with
        | @cons q5 _ p5 _ g9 g10 =>
          cases g10
          repeat walk_at "st"
          refine r_fldOf (sG _ _ h1) T.cl_Statement T.n_Statement_parts rfl ?_
          refine r_gLst (xs := [V.ref q1, V.ref q2, V.ref q3, V.ref q4, V.ref q5]) (SqL.of (sG _ _ h3)) rfl ?_
          repeat walk_at "st"
          refine r_fldOf hp T.cl_Plan T.n_Plan_moods rfl ?_
          repeat walk_at "st"
          refine ⟨A.md, q1, pd.moods, m, i, rfl, hA.md, g1.mono sG, hi, ?_⟩
          repeat walk_at "st"
          refine r_fldOf hp T.cl_Plan T.n_Plan_signs rfl ?_
          repeat walk_at "st"
          refine ⟨A.sg, q2, pd.signs, s, j, rfl, hA.sg, g3.mono sG, hj, ?_⟩
          repeat walk_at "st"
          refine ⟨by show 2 ≤ sizeLine; decide, fun qp np => ?_⟩
          have s1 : Same H (upd H qp (.tup [.int (i : Nat), .int (j : Nat)])) := Same.new np
          have hA1 := hA.mono s1
          have hqp : (upd H qp (.tup [.int (i : Nat), .int (j : Nat)])) qp = some (.tup ([Sum.inl (i : Int), Sum.inl (j : Int)].map kV)) := upd_same
          have hkv1 := s1 _ _ hkv
          have hp1 := s1 _ _ hp
          have sG1 := sG.trans s1
          have hkvs1 : Paired (RuAt (upd H qp (.tup [.int (i : Nat), .int (j : Nat)]))) kvs pd.rules := Paired.mapP hkvs fun _ _ e => ⟨e.1, let ⟨q, e1, e2⟩ := e.2; ⟨q, e1, s1 _ _ e2⟩⟩
          generalize upd H qp (.tup [.int (i : Nat), .int (j : Nat)]) = H1 at *
          repeat walk_at "st"
          refine r_fldOf hp1 T.cl_Plan T.n_Plan_rules rfl ?_
          refine r_dIs (DGet.t hkv1 hqp) ?_
          rw [rl_none hkvs1 hm]
          repeat walk_at "st"
          refine r_fldOf (sG1 _ _ h1) T.cl_Statement T.n_Statement_word rfl ?_
          repeat walk_at "st"
          refine ⟨_, _, rfl, ?_⟩
          repeat walk_at "st"
          refine r_fldOf hp1 T.cl_Plan T.n_Plan_signs rfl ?_
          repeat walk_at "st"
          refine ⟨A.sg, q3, pd.signs, t, kk, rfl, hA1.sg, g5.mono sG1, hkk, ?_⟩
          repeat walk_at "st"
          refine ⟨T.t_MOVES.ty, ?_⟩
          obtain ⟨dv, hv⟩ := g7.mono sG1
          repeat walk_at "st"
          refine r_fldOf hv T.cl_Token T.n_Token_text rfl ?_
          repeat walk_at "st"
          refine r_tupIx (ys := MOVESs) T.t_MOVES.sq (move_ix hd) ?_
          repeat walk_at "st"
          refine r_fldOf hp1 T.cl_Plan T.n_Plan_moods rfl ?_
          repeat walk_at "st"
          refine ⟨A.md, q5, pd.moods, n, l, rfl, hA1.md, g9.mono sG1, hll, ?_⟩
          repeat walk_at "st"
          refine ⟨by show 3 ≤ sizeLine; decide, fun qr nr => ?_⟩
          have s2 : Same H1 (upd H1 qr (.tup [.int (kk : Nat), .int (d : Nat), .int (l : Nat)])) := Same.new nr
          have hqr : (upd H1 qr (.tup [.int (kk : Nat), .int (d : Nat), .int (l : Nat)])) qr = some (.tup [.int (kk : Nat), .int (d : Nat), .int (l : Nat)]) := upd_same
          have hA2 := hA1.mono s2
          have hkvs2 : Paired (RuAt (upd H1 qr (.tup [.int (kk : Nat), .int (d : Nat), .int (l : Nat)]))) kvs pd.rules := Paired.mapP hkvs1 fun _ _ e => ⟨e.1, let ⟨q, e1, e2⟩ := e.2; ⟨q, e1, s2 _ _ e2⟩⟩
          repeat walk_at "st"
          refine r_fldOf (s2 _ _ hp1) T.cl_Plan T.n_Plan_rules rfl ?_
          repeat walk_at "st"
          refine r_dPutT (s2 _ _ hkv1) (s2 _ _ hqp) (by rw [pr_len hkvs2]; exact Nat.lt_of_le_of_lt hrl (by decide)) ?_
          rw [putK_snoc _ (rl_none hkvs2 hm)]
          exact k _ (hA2.addRl (s2 _ _ hkv1) hkvs2 ⟨rfl, qr, rfl, hqr⟩) (Same.mut (sG1.trans s2) aw.rl)
    next => cases hadd
  next => cases hadd
end
end Sw

/-! Plan and read_plan. -/
namespace Sw
open PySem L2
def sp_Plan_init (K : PySem.W.Frag) (a : Adr) : Sp := fun vs H Q _ => ∃ (p dx : Addr), vs = [.ref p] ∧ H p = some (.ins a.cPlan dx []) ∧
  ∀ H' A, A.p = p → PlanAt a H' A PlanD.empty → Keep p H H' → (∀ x, (x = A.sg ∨ x = A.md ∨ x = A.rb ∨ x = A.pt ∨ x = A.rl) → H x = none) → Q .non H'
theorem put1 {H : Hp} {p x C dx : Addr} {o : HO} {fs fs' : List (Str × V)} (hp : H p = some (.ins C dx fs)) (nx : H x = none) :
    upd (upd H x o) p (.ins C dx fs') p = some (.ins C dx fs') ∧ upd (upd H x o) p (.ins C dx fs') x = some o ∧ Keep p H (upd (upd H x o) p (.ins C dx fs')) := by
  have n := ne_of_none hp nx
  exact ⟨upd_same, by rw [upd_ne n.symm, upd_same], fun b u e nb => by rw [upd_ne nb, upd_ne (ne_of_none e nx)]; exact e⟩
theorem Keep.none {p b : Addr} {H H' : Hp} (k : Keep p H H') (n : b ≠ p) (h : H' b = none) : H b = none := by
  cases q : H b with
  | none => rfl
  | some o =>
    rw [k b o q n] at h
    cases h
section
variable {P : Program} {w : World} {K : PySem.W.Frag} {mg : Str → Option Value} {base : Heap} {a : Adr}
theorem ok_Plan_init {f : Addr} {fd : FuncData} (F : Fun K "__init__" "Plan.__init__" s_Plan_init f fd) (T : Txt w K mg a)
     :
    FnOk P w K mg base CX0 1 f fd ps_Plan_init (sp_Plan_init K a) := by
  refine F.ok sc_Plan_init (fun vs H Q E h => ?_) (fun cdv A outer s H vs Q E hr h => ?_)
  · obtain ⟨p, dx, rfl, hp, k⟩ := h
    rfl
  obtain ⟨p, dx, rfl, hp, k⟩ := h
  have hu := hu_of hr
  refine ⟨_, 
    (pss_cons (ps_fld (pv 0) pe_int rfl) 
    (pss_cons (ps_fld (pv 0) (pe_lst pa_nil) rfl) 
    (pss_cons (ps_fld (pv 0) (pe_lst pa_nil) rfl) 
    (pss_cons (ps_fld (pv 0) (pe_lst pa_nil) rfl) 
    (pss_cons (ps_fld (pv 0) pe_dnewK rfl) 
    (pss_one (ps_fld (pv 0) pe_dnewT rfl))))))), ?_⟩
  repeat walk_at "st"
  refine r_sfldOf hp T.cl_Plan T.n_Plan_size (by decide) ?_
  have q0 : upd H p (.ins a.cPlan dx (putF "size" (.int 0) [])) p = some (.ins a.cPlan dx (putF "size" (.int 0) [])) ∧ Keep p H (upd H p (.ins a.cPlan dx (putF "size" (.int 0) []))) := ⟨upd_same, fun b o e n => upd_kept e n⟩
  generalize upd H p (.ins a.cPlan dx (putF "size" (.int 0) [])) = H0 at q0 ⊢
  obtain ⟨g0, k0⟩ := q0
  repeat walk_at "st"
  refine ⟨by decide, fun x1 n1 => ?_⟩
  repeat walk_at "st"
  have xp1 : p ≠ x1 := ne_of_none g0 n1
  refine r_sfldOf (upd_kept g0 xp1) T.cl_Plan T.n_Plan_signs (Nat.lt_of_le_of_lt (putF_len (n := 0) (Nat.le_refl _)) (by decide)) ?_
  have q1 := put1 (o := .lst []) (fs' := putF "signs" (.ref x1) (putF "size" (.int 0) [])) g0 n1
  generalize upd (upd H0 x1 (.lst [])) p (.ins a.cPlan dx (putF "signs" (.ref x1) (putF "size" (.int 0) []))) = H1 at q1 ⊢
  obtain ⟨g1, y1, k1⟩ := q1
  repeat walk_at "st"
  refine ⟨by decide, fun x2 n2 => ?_⟩
  repeat walk_at "st"
  have xp2 : p ≠ x2 := ne_of_none g1 n2
  refine r_sfldOf (upd_kept g1 xp2) T.cl_Plan T.n_Plan_moods (Nat.lt_of_le_of_lt (putF_len (n := 1) (putF_len (n := 0) (Nat.le_refl _))) (by decide)) ?_
  have q2 := put1 (o := .lst []) (fs' := putF "moods" (.ref x2) (putF "signs" (.ref x1) (putF "size" (.int 0) []))) g1 n2
  generalize upd (upd H1 x2 (.lst [])) p (.ins a.cPlan dx (putF "moods" (.ref x2) (putF "signs" (.ref x1) (putF "size" (.int 0) [])))) = H2 at q2 ⊢
  obtain ⟨g2, y2, k2⟩ := q2
  repeat walk_at "st"
  refine ⟨by decide, fun x3 n3 => ?_⟩
  repeat walk_at "st"
  have xp3 : p ≠ x3 := ne_of_none g2 n3
  refine r_sfldOf (upd_kept g2 xp3) T.cl_Plan T.n_Plan_robots (Nat.lt_of_le_of_lt (putF_len (n := 2) (putF_len (n := 1) (putF_len (n := 0) (Nat.le_refl _)))) (by decide)) ?_
  have q3 := put1 (o := .lst []) (fs' := putF "robots" (.ref x3) (putF "moods" (.ref x2) (putF "signs" (.ref x1) (putF "size" (.int 0) [])))) g2 n3
  generalize upd (upd H2 x3 (.lst [])) p (.ins a.cPlan dx (putF "robots" (.ref x3) (putF "moods" (.ref x2) (putF "signs" (.ref x1) (putF "size" (.int 0) []))))) = H3 at q3 ⊢
  obtain ⟨g3, y3, k3⟩ := q3
  repeat walk_at "st"
  intro x4 n4
  repeat walk_at "st"
  have xp4 : p ≠ x4 := ne_of_none g3 n4
  refine r_sfldOf (upd_kept g3 xp4) T.cl_Plan T.n_Plan_puts (Nat.lt_of_le_of_lt (putF_len (n := 3) (putF_len (n := 2) (putF_len (n := 1) (putF_len (n := 0) (Nat.le_refl _))))) (by decide)) ?_
  have q4 := put1 (o := .dK []) (fs' := putF "puts" (.ref x4) (putF "robots" (.ref x3) (putF "moods" (.ref x2) (putF "signs" (.ref x1) (putF "size" (.int 0) []))))) g3 n4
  generalize upd (upd H3 x4 (.dK [])) p (.ins a.cPlan dx (putF "puts" (.ref x4) (putF "robots" (.ref x3) (putF "moods" (.ref x2) (putF "signs" (.ref x1) (putF "size" (.int 0) [])))))) = H4 at q4 ⊢
  obtain ⟨g4, y4, k4⟩ := q4
  repeat walk_at "st"
  intro x5 n5
  repeat walk_at "st"
  have xp5 : p ≠ x5 := ne_of_none g4 n5
  refine r_sfldOf (upd_kept g4 xp5) T.cl_Plan T.n_Plan_rules (Nat.lt_of_le_of_lt (putF_len (n := 4) (putF_len (n := 3) (putF_len (n := 2) (putF_len (n := 1) (putF_len (n := 0) (Nat.le_refl _)))))) (by decide)) ?_
  have q5 := put1 (o := .dT []) (fs' := putF "rules" (.ref x5) (putF "puts" (.ref x4) (putF "robots" (.ref x3) (putF "moods" (.ref x2) (putF "signs" (.ref x1) (putF "size" (.int 0) [])))))) g4 n5
  generalize upd (upd H4 x5 (.dT [])) p (.ins a.cPlan dx (putF "rules" (.ref x5) (putF "puts" (.ref x4) (putF "robots" (.ref x3) (putF "moods" (.ref x2) (putF "signs" (.ref x1) (putF "size" (.int 0) []))))))) = H5 at q5 ⊢
  obtain ⟨g5, y5, k5⟩ := q5
  have eF : putF "rules" (.ref x5) (putF "puts" (.ref x4) (putF "robots" (.ref x3) (putF "moods" (.ref x2) (putF "signs" (.ref x1) (putF "size" (.int 0) []))))) = plFs ⟨p, x1, x2, x3, x4, x5⟩ 0 := by
    unfold plFs
    simp only [putF, if_neg (show ¬ (("size" : Str) = "signs") by decide +kernel), if_neg (show ¬ (("size" : Str) = "moods") by decide +kernel), if_neg (show ¬ (("signs" : Str) = "moods") by decide +kernel), if_neg (show ¬ (("size" : Str) = "robots") by decide +kernel), if_neg (show ¬ (("signs" : Str) = "robots") by decide +kernel), if_neg (show ¬ (("moods" : Str) = "robots") by decide +kernel), if_neg (show ¬ (("size" : Str) = "puts") by decide +kernel), if_neg (show ¬ (("signs" : Str) = "puts") by decide +kernel), if_neg (show ¬ (("moods" : Str) = "puts") by decide +kernel), if_neg (show ¬ (("robots" : Str) = "puts") by decide +kernel), if_neg (show ¬ (("size" : Str) = "rules") by decide +kernel), if_neg (show ¬ (("signs" : Str) = "rules") by decide +kernel), if_neg (show ¬ (("moods" : Str) = "rules") by decide +kernel), if_neg (show ¬ (("robots" : Str) = "rules") by decide +kernel), if_neg (show ¬ (("puts" : Str) = "rules") by decide +kernel)]
  rw [eF] at g5
  have nx1 : H x1 = none := k0.none xp1.symm n1
  have nx2 : H x2 = none := k0.none xp2.symm (k1.none xp2.symm n2)
  have nx3 : H x3 = none := k0.none xp3.symm (k1.none xp3.symm (k2.none xp3.symm n3))
  have nx4 : H x4 = none := k0.none xp4.symm (k1.none xp4.symm (k2.none xp4.symm (k3.none xp4.symm n4)))
  have nx5 : H x5 = none := k0.none xp5.symm (k1.none xp5.symm (k2.none xp5.symm (k3.none xp5.symm (k4.none xp5.symm n5))))
  have z1 := k5 _ _ (k4 _ _ (k3 _ _ (k2 _ _ y1 xp1.symm) xp1.symm) xp1.symm) xp1.symm
  have z2 := k5 _ _ (k4 _ _ (k3 _ _ y2 xp2.symm) xp2.symm) xp2.symm
  have z3 := k5 _ _ (k4 _ _ y3 xp3.symm) xp3.symm
  have z4 := k5 _ _ y4 xp4.symm
  refine k H5 ⟨p, x1, x2, x3, x4, x5⟩ rfl ⟨⟨dx, g5⟩, z1, z2, ⟨[], z3, .nil⟩, z4, ⟨[], y5, .nil⟩, ne_of_none y1 n2, ne_of_none (k2 _ _ y1 xp1.symm) n3, ne_of_none y2 n3⟩ ((((k0.trans k1).trans k2).trans k3).trans k4 |>.trans k5) fun x hx => ?_
  rcases hx with rfl | rfl | rfl | rfl | rfl <;> assumption
theorem none_back {H H1 : Hp} {p : Addr} (s : Same H H1) (n : H1 p = none) : H p = none := by
  cases e : H p with
  | none => rfl
  | some o => rw [s _ _ e] at n; cases n
/-- which def stands for which kind of statement -/
def AddR (a : Adr) (f : Addr) (sp : Sp) : Prop := ∃ kind : Str, sp = spAdd a kind ∧ ((kind = "corridor" ∧ f = a.fADDERS_corridor) ∨ (kind = "signs" ∧ f = a.fADDERS_signs) ∨ (kind = "moods" ∧ f = a.fADDERS_moods) ∨ (kind = "robot" ∧ f = a.fADDERS_robot) ∨ (kind = "put" ∧ f = a.fADDERS_put) ∨ (kind = "when" ∧ f = a.fADDERS_when))
theorem add_kind {pd pd' : PlanD} {st : Stm} (h : addM pd st = some pd') : st.word.kind = "corridor" ∨ st.word.kind = "signs" ∨ st.word.kind = "moods" ∨ st.word.kind = "robot" ∨ st.word.kind = "put" ∨ st.word.kind = "when" := by
  unfold addM at h
  by_cases h1 : st.word.kind = "corridor"; · exact .inl h1
  rw [if_neg h1] at h
  by_cases h2 : st.word.kind = "signs"; · exact .inr (.inl h2)
  rw [if_neg h2] at h
  by_cases h3 : st.word.kind = "moods"; · exact .inr (.inr (.inl h3))
  rw [if_neg h3] at h
  by_cases h4 : st.word.kind = "robot"; · exact .inr (.inr (.inr (.inl h4)))
  rw [if_neg h4] at h
  by_cases h5 : st.word.kind = "put"; · exact .inr (.inr (.inr (.inr (.inl h5))))
  rw [if_neg h5] at h
  by_cases h6 : st.word.kind = "when"; · exact .inr (.inr (.inr (.inr (.inr h6))))
  rw [if_neg h6] at h
  cases h
/-- what a text must be, that is read without an error -/
structure Good (z : Str) (pd : PlanD) (ts : List Tk) (ss : List Stm) : Prop where
  tok : TokPre z ts
  par : parseM ts = some ss
  add : addAll PlanD.empty ss = some pd
  len : ∀ s ∈ ss, s.parts.length ≤ 1000 ∧ ∀ t ∈ s.parts, t.text.length ≤ 600
  many : ss.length ≤ 90000
def sp_read_plan (K : PySem.W.Frag) (a : Adr) : Sp := fun vs H Q _ => ∃ (z : Str) (pd : PlanD) (ts : List Tk) (ss : List Stm), vs = [.str z] ∧ Good z pd ts ss ∧
  ∀ H' A, PlanAt a H' A pd → Same H H' → (∀ x, (x = A.p ∨ x = A.sg ∨ x = A.md ∨ x = A.rb ∨ x = A.pt ∨ x = A.rl) → H x = none) → Q (.ref A.p) H'
def sp_checked_plan (K : PySem.W.Frag) (a : Adr) : Sp := fun vs H Q _ => ∃ (l : Addr) (qs : List Addr) (pd : PlanD) (ss : List Stm), vs = [.ref l] ∧ H l = some (.lst (qs.map V.ref)) ∧ Paired (fun q st => ∃ pl, StAt a H q pl st) qs ss ∧ addAll PlanD.empty ss = some pd ∧
  (∀ s ∈ ss, s.parts.length ≤ 1000 ∧ ∀ t ∈ s.parts, t.text.length ≤ 600) ∧ ss.length ≤ 90000 ∧
  ∀ H' A, PlanAt a H' A pd → Same H H' → (∀ x, (x = A.p ∨ x = A.sg ∨ x = A.md ∨ x = A.rb ∨ x = A.pt ∨ x = A.rl) → H x = none) → Q (.ref A.p) H'
theorem addM_len {pd pd' : PlanD} {st : Stm} (h : addM pd st = some pd') : pd'.puts.length ≤ pd.puts.length + 1 ∧ pd'.rules.length ≤ pd.rules.length + 1 := by
  unfold addM at h
  repeat' split at h
  all_goals first
    | (cases h; done)
    | (cases h; simp; done)
    | (cases h; exact ⟨by simp, by simp⟩)
/-- the heap without the plan -/
def Gm (A : PA) (H : Hp) : Hp := fun b => if b = A.p ∨ b = A.sg ∨ b = A.md ∨ b = A.rb ∨ b = A.pt ∨ b = A.rl then none else H b
theorem Gm_at {A : PA} {H : Hp} {b : Addr} {o : HO} (e : H b = some o) (n : ¬ (b = A.p ∨ b = A.sg ∨ b = A.md ∨ b = A.rb ∨ b = A.pt ∨ b = A.rl)) : Gm A H b = some o := by
  unfold Gm; rw [if_neg n]; exact e
theorem Gm_same {A : PA} {H : Hp} : Same (Gm A H) H := fun b o e => by
  unfold Gm at e
  by_cases n : b = A.p ∨ b = A.sg ∨ b = A.md ∨ b = A.rb ∨ b = A.pt ∨ b = A.rl
  · rw [if_pos n] at e; cases e
  · rw [if_neg n] at e; exact e
theorem Gm_away {A : PA} {H : Hp} : Away A (Gm A H) := by
  refine ⟨if_pos ?_, if_pos ?_, if_pos ?_, if_pos ?_, if_pos ?_, if_pos ?_⟩ <;> simp
theorem Gm_ins {H : Hp} {A : PA} {pd : PlanD} {b C dx : Addr} {fs : List (Str × V)} {k : Str} {v : V} {r : List (Str × V)} (hA : PlanAt a H A pd) (e : H b = some (.ins C dx fs)) (ef : fs = (k, v) :: r) (hk : ¬ k = "size") : Gm A H b = some (.ins C dx fs) := by
  obtain ⟨d2, h1⟩ := hA.ob
  obtain ⟨qs, h2, _⟩ := hA.rb
  obtain ⟨kvs, h3, _⟩ := hA.rl
  refine Gm_at e ?_
  rintro (n | n | n | n | n | n)
  · rw [n, h1] at e
    injection e with e
    injection e with _ _ e
    unfold plFs at e
    rw [ef] at e
    injection e with e _
    exact hk (Prod.mk.inj e).1.symm
  · rw [n, hA.sg] at e; cases e
  · rw [n, hA.md] at e; cases e
  · rw [n, h2] at e; cases e
  · rw [n, hA.pt] at e; cases e
  · rw [n, h3] at e; cases e
theorem Gm_lst {H : Hp} {A : PA} {pd : PlanD} {b : Addr} {xs : List V} (hA : PlanAt a H A pd) (e : H b = some (.lst xs)) (h1 : b ≠ A.sg) (h2 : b ≠ A.md) (h3 : b ≠ A.rb) : Gm A H b = some (.lst xs) := by
  obtain ⟨d2, g1⟩ := hA.ob
  obtain ⟨kvs, g3, _⟩ := hA.rl
  refine Gm_at e ?_
  rintro (n | n | n | n | n | n)
  · rw [n, g1] at e; cases e
  · exact h1 n
  · exact h2 n
  · exact h3 n
  · rw [n, hA.pt] at e; cases e
  · rw [n, g3] at e; cases e
theorem Gm_tk {H : Hp} {A : PA} {pd : PlanD} {q : Addr} {t : Tk} (hA : PlanAt a H A pd) (h : TkAt a H q t) : TkAt a (Gm A H) q t := by
  obtain ⟨dx, e⟩ := h
  exact ⟨dx, Gm_ins hA e rfl (by decide +kernel)⟩
theorem Gm_st {H : Hp} {A : PA} {pd : PlanD} {q pl : Addr} {st : Stm} (hA : PlanAt a H A pd) (h : StAt a H q pl st) (h1 : pl ≠ A.sg) (h2 : pl ≠ A.md) (h3 : pl ≠ A.rb) : StAt a (Gm A H) q pl st := by
  obtain ⟨dx, wq, ps, g1, g2, g3, g4⟩ := h
  exact ⟨dx, wq, ps, Gm_ins hA g1 rfl (by decide +kernel), Gm_tk hA g2, Gm_lst hA g3 h1 h2 h3, Paired.mapP g4 fun _ _ => Gm_tk hA⟩
theorem ok_checked_plan {f : Addr} {fd : FuncData} (F : Fun K "checked_plan" "checked_plan" s_checked_plan f fd) (T : Txt w K mg a)
    {f_Plan_init : Addr} {fd_Plan_init : FuncData} (M_Plan : Mk K a.cPlan f_Plan_init) (G_Plan_init : CalM P w K mg base 1 f_Plan_init fd_Plan_init ps_Plan_init (sp_Plan_init K a))
    (AH : ∀ f sp, AddR a f sp → Held P w K mg base 9 f sp) :
    FnOk P w K mg base CX0 10 f fd ps_checked_plan (sp_checked_plan K a) := by
  refine F.ok sc_checked_plan (fun vs H Q E h => ?_) (fun cdv A outer s H vs Q E hr h => ?_)
  · obtain ⟨l, qs, pd, ss, rfl, hl, hst, hall, hbs, hmany, k⟩ := h
    rfl
  obtain ⟨l, qs, pd, ss, rfl, hl, hst, hall, hbs, hmany, k⟩ := h
  have hu := hu_of hr
  refine ⟨_, 
    (pss_cons (ps_set (i := 1) sc_checked_plan.nd rfl (.inl rfl) (pe_make0 M_Plan G_Plan_init.ok (hr.mono (by decide)) rfl T.c_Plan G_Plan_init.b .nil pass0)) 
    (pss_cons (ps_for PassesOwn.never rfl (pi_list (pv 0)) (pg_name (i := 2) sc_checked_plan.nd rfl (.inl rfl)) 
      (pss_cons (ps_set (i := 3) sc_checked_plan.nd rfl (.inl rfl) (pe_ix ix_kdict (pgR rfl T.g_ADDERS) (pe_fld (pe_fld (pv 2) rfl) rfl) (fun _ _ => rfl))) 
      (pss_one (ps_expr (pe_callH (i := 3) AH (hr.mono (by decide)) rfl (.inl rfl) (pa_cons (pv 1) (pa_cons (pv 2) pa_nil))))))) 
    (pss_one (ps_ret (pv 1))))), ?_⟩
  repeat walk_at "st"
  intro p dx np ndx hdx
  refine ⟨p, dx, rfl, upd_same, fun H2 A eA hA2 k1 hx => ⟨rfl, ?_⟩⟩
  subst eA
  have s1 : Same H H2 := Same.made np ndx k1
  have hfresh : ∀ x, (x = A.p ∨ x = A.sg ∨ x = A.md ∨ x = A.rb ∨ x = A.pt ∨ x = A.rl) → H x = none := by
    rintro x (h | h)
    · rw [h]; exact np
    · have e := hx x h
      have n2 : x ≠ A.p := fun z => by rw [z, upd_same] at e; cases e
      rw [upd_ne n2] at e
      have n3 : x ≠ dx := fun z => by rw [z, upd_same] at e; cases e
      rw [upd_ne n3] at e
      exact e
  repeat walk_at "st"
  refine r_itL (SqL.of (s1 _ _ hl)) ?_
  have hlen := PySem.Paired.length hst
  have sHG : Same H (Gm A H2) := fun b o e => Gm_at (s1 _ _ e) fun n => by rw [hfresh b n] at e; cases e
  have hlG : Gm A H2 l = some (.lst (qs.map V.ref)) := sHG _ _ hl
  have hstG : Paired (fun q st => ∃ pl, StAt a (Gm A H2) q pl st) qs ss := Paired.mapP hst fun q st ⟨pl, g⟩ => ⟨pl, g.mono sHG⟩
  refine for_list (xs := qs.map V.ref) (fun i σ H3 => ∃ pd1, PlanAt a H3 A pd1 ∧ Same (Gm A H2) H3 ∧ addAll pd1 (ss.drop i) = some pd ∧ pd1.puts.length ≤ i ∧ pd1.rules.length ≤ i ∧ ∃ x y, σ = [some (.ref l), some (.ref A.p), x, y])
    ⟨_, hA2, Gm_same, hall, Nat.le_refl _, Nat.le_refl _, _, _, rfl⟩ ?_ ?_ ?_
  · rintro i σ H3 _ ⟨pd1, _, s3, _⟩
    exact SqL.of (s3 _ _ hlG)
  · rintro i x σ H3 hx ⟨pd1, hA3, s3, h3, b1, b2, x1, x2, rfl⟩
    rw [List.getElem?_map] at hx
    cases hq : qs[i]? with
    | none => rw [hq] at hx; cases hx
    | some q =>
      rw [hq] at hx
      cases hx
      obtain ⟨st, hst1, pl, hst2⟩ := paired_get hstG hq
      obtain ⟨hi, e⟩ := List.getElem?_eq_some_iff.mp hst1
      rw [List.drop_eq_getElem_cons hi, e] at h3
      unfold addAll at h3
      cases hadd : addM pd1 st with
      | none => rw [hadd] at h3; cases h3
      | some pd2 =>
        rw [hadd] at h3
        dsimp only at h3
        have hst3 := hst2.mono s3
        obtain ⟨d1, wq, ps, g1, ⟨dw, g2⟩, g3, g4⟩ := hst3
        have hb := hbs st (List.mem_of_getElem? hst1)
        have hlen2 := addM_len hadd
        obtain ⟨f, hR, hd⟩ : ∃ f, AddR a f (spAdd a st.word.kind) ∧ KDct K w a.aADDERS st.word.kind (.ref f) := by
          rcases add_kind hadd with hk | hk | hk | hk | hk | hk
          · rw [hk]; exact ⟨_, ⟨_, rfl, .inl ⟨rfl, rfl⟩⟩, T.d_ADDERS_corridor⟩
          · rw [hk]; exact ⟨_, ⟨_, rfl, .inr (.inl ⟨rfl, rfl⟩)⟩, T.d_ADDERS_signs⟩
          · rw [hk]; exact ⟨_, ⟨_, rfl, .inr (.inr (.inl ⟨rfl, rfl⟩))⟩, T.d_ADDERS_moods⟩
          · rw [hk]; exact ⟨_, ⟨_, rfl, .inr (.inr (.inr (.inl ⟨rfl, rfl⟩)))⟩, T.d_ADDERS_robot⟩
          · rw [hk]; exact ⟨_, ⟨_, rfl, .inr (.inr (.inr (.inr (.inl ⟨rfl, rfl⟩))))⟩, T.d_ADDERS_put⟩
          · rw [hk]; exact ⟨_, ⟨_, rfl, .inr (.inr (.inr (.inr (.inr ⟨rfl, rfl⟩))))⟩, T.d_ADDERS_when⟩
        repeat walk_at "st"
        refine r_fldOf g1 T.cl_Statement T.n_Statement_word rfl ?_
        repeat walk_at "st"
        refine r_fldOf g2 T.cl_Token T.n_Token_kind rfl ?_
        refine ⟨_, _, _, rfl, rfl, hd, ?_⟩
        repeat walk_at "st"
        refine r_callH ⟨f, _, rfl, hR, ?_⟩
        repeat walk_at "st"
        refine ⟨A, pd1, pd2, Gm A H2, q, pl, st, rfl, hA3, Gm_away, s3, hst2, rfl, hadd, hb.2, hb.1, by omega, by omega, fun H4 hA4 s4 => ?_⟩
        repeat walk_at "st"
        exact ⟨pd2, hA4, s4, h3, by omega, by omega, _, _, rfl⟩
  · rintro σ H3 ⟨pd1, hA3, s3, h3, b1, b2, x1, x2, rfl⟩
    rw [List.length_map, hlen, List.drop_length] at h3
    unfold addAll at h3
    cases h3
    repeat walk_at "st"
    exact k _ A hA3 (sHG.trans s3) hfresh
theorem ok_read_plan {f : Addr} {fd : FuncData} (F : Fun K "read_plan" "read_plan" s_read_plan f fd) (T : Txt w K mg a)
    {f_checked_plan : Addr} {fd_checked_plan : FuncData} (G_checked_plan : Cal P w K mg base "checked_plan" 10 f_checked_plan fd_checked_plan ps_checked_plan (sp_checked_plan K a))
    {f_parse : Addr} {fd_parse : FuncData} (G_parse : Cal P w K mg base "parse" 7 f_parse fd_parse ps_parse (sp_parse K a)) :
    FnOk P w K mg base CX0 11 f fd ps_read_plan (sp_read_plan K a) := by
  refine F.ok sc_read_plan (fun vs H Q E h => ?_) (fun cdv A outer s H vs Q E hr h => ?_)
  · obtain ⟨z, pd, ts, ss, rfl, G, k⟩ := h
    rfl
  obtain ⟨z, pd, ts, ss, rfl, G, k⟩ := h
  have hu := hu_of hr
  refine ⟨_, 
    (pss_one (ps_ret (pe_call G_checked_plan.ok (hr.mono (by decide)) rfl G_checked_plan.mg' G_checked_plan.kp G_checked_plan.b .nil pass0 (pa_cons (pe_call G_parse.ok (hr.mono (by decide)) rfl G_parse.mg' G_parse.kp G_parse.b .nil pass0 (pa_cons (pv 0) pa_nil)) pa_nil)))), ?_⟩
  repeat walk_at "st"
  refine ⟨z, ts, ss, rfl, G.tok, G.par, fun H2 l qs s2 nl hl hst => ?_⟩
  repeat walk_at "st"
  exact ⟨l, qs, pd, ss, rfl, hl, Paired.mapP hst fun q st ⟨pl, _, g⟩ => ⟨pl, g⟩, G.add, G.len, G.many, fun H' A hA s f => k H' A hA (s2.trans s) fun x hx => none_back s2 (f x hx)⟩
end
end Sw

/-! The formatter. -/
namespace Sw
open PySem L2
def sp_rule_line (K : PySem.W.Frag) (a : Adr) : Sp := fun vs H Q _ => ∃ (A : PA) (pd : PlanD) (k : Nat × Nat), vs = [.ref A.p, .int (k.1 : Int), .int (k.2 : Int)] ∧ PlanAt a H A pd ∧ Small pd ∧ k ∈ pd.rules.map (·.1) ∧
  ∀ H', Same H H' → Q (.str (ruleL pd k)) H'
def sp_canonical_text (K : PySem.W.Frag) (a : Adr) : Sp := fun vs H Q _ => ∃ (A : PA) (pd : PlanD), vs = [.ref A.p] ∧ PlanAt a H A pd ∧ Small pd ∧
  ∀ H' ts rs, Same H H' → PutsOf pd ts → RulesOf pd rs → Q (.str (canonT pd ts rs)) H'
def sp_format_plan (K : PySem.W.Frag) (a : Adr) : Sp := fun vs H Q _ => ∃ (z : Str) (pd : PlanD) (ts : List Tk) (ss : List Stm), vs = [.str z] ∧ Good z pd ts ss ∧ Small pd ∧
  ∀ H' ts rs, Same H H' → PutsOf pd ts → RulesOf pd rs → Q (.str (canonT pd ts rs)) H'
def sp_signs_of (K : PySem.W.Frag) (a : Adr) : Sp := fun vs H Q _ => ∃ (z : Str) (pd : PlanD) (ts : List Tk) (ss : List Stm), vs = [.str z] ∧ Good z pd ts ss ∧
  ∀ H' l, Same H H' → H l = none → H' l = some (.lst (pd.signs.map V.str)) → Q (.ref l) H'
theorem rl_get {H : Hp} {kvs : List (List Key × V)} {l : List ((Nat × Nat) × Nat × Nat × Nat)} {k : Nat × Nat} {r : Nat × Nat × Nat} (hp : Paired (RuAt H) kvs l) (h : ruleAt l k = some r) :
    ∃ q, valV kvs [Sum.inl (k.1 : Int), Sum.inl (k.2 : Int)] = some (.ref q) ∧ H q = some (.tup [.int (r.1 : Int), .int (r.2.1 : Int), .int (r.2.2 : Int)]) := by
  induction hp with
  | nil => cases h
  | @cons kv x kvs l h1 h2 ih =>
    unfold ruleAt at h
    by_cases e : x.1 = k
    · rw [if_pos e] at h
      cases h
      obtain ⟨g1, q, g2, g3⟩ := h1
      refine ⟨q, ?_, g3⟩
      rw [valV_pos (by rw [g1, e])]
      rw [g2]
    · rw [if_neg e] at h
      obtain ⟨q, g2, g3⟩ := ih h
      refine ⟨q, ?_, g3⟩
      rw [valV_neg (fun e2 => e ?_)]
      · exact g2
      · have e3 := h1.1.symm.trans e2
        simp only [List.cons.injEq, Sum.inl.injEq, Int.natCast_inj, and_true] at e3
        obtain ⟨k1, k2⟩ := k
        obtain ⟨⟨x, y⟩, z⟩ := x
        rw [Prod.mk.injEq]
        exact e3
theorem pt_get : ∀ {l : List (Int × Nat)} {t : Int} {i : Nat}, putAt l t = some i → valV (ptV l) (Sum.inl t) = some (.int (i : Int))
  | [], _, _, h => by cases h
  | x :: r, t, i, h => by
    unfold putAt at h
    show valV ((Sum.inl x.1, V.int (x.2 : Int)) :: ptV r) (Sum.inl t) = _
    by_cases e : x.1 = t
    · rw [if_pos e] at h
      cases h
      rw [valV_pos (by rw [e])]
    · rw [if_neg e] at h
      rw [valV_neg fun q => e (Sum.inl.inj q)]
      exact pt_get h
theorem nat_at {α : Type} {l : List α} {i : Nat} {x : α} (h : l[i]? = some x) : atI l (i : Int) = some x := atI_nat h
theorem map_getD {l : List Str} {i : Nat} (h : i < l.length) : (l.map V.str)[i]? = some (.str (l.getD i Str.empty)) := by
  rw [List.getElem?_map, List.getElem?_eq_getElem h, List.getD_eq_getElem?_getD, List.getElem?_eq_getElem h]
  rfl
theorem getD_len {l : List Str} {i n : Nat} (hl : ∀ s ∈ l, s.length ≤ n) (h : i < l.length) : (l.getD i Str.empty).length ≤ n := by
  rw [List.getD_eq_getElem?_getD, List.getElem?_eq_getElem h]
  exact hl _ (List.getElem_mem h)
theorem r_js {t : TE} {ts : List TE} {acc : Str} {σ : St} {H : Hp} {Q : Str → Hp → Prop} (h : t σ H fun x H1 => ∃ y : Str, x = .str y ∧ (acc ++ y).length ≤ sizeLine ∧ tJs ts (acc ++ y) σ H1 Q) : tJs (t :: ts) acc σ H Q := h
theorem r_js0 {acc : Str} {σ : St} {H : Hp} {Q : Str → Hp → Prop} (h : Q acc H) : tJs [] acc σ H Q := h
theorem size_ge : 10000 ≤ sizeLine := by decide
theorem lits : ("corridor " : Str).length = 9 ∧ ("signs " : Str).length = 6 ∧ ("moods " : Str).length = 6 ∧ ("robot " : Str).length = 6 ∧ ("put " : Str).length = 4 ∧ ("when " : Str).length = 5 ∧ ("leave " : Str).length = 6 ∧ (" " : Str).length = 1 ∧ (";" : Str).length = 1 := by decide +kernel
theorem MOVES_len : ∀ d : Nat, (MOVESs.getD d Str.empty).length ≤ 5 := by
  intro d
  by_cases h : d < 3
  · have : ∀ d : Fin 3, (MOVESs.getD d.val Str.empty).length ≤ 5 := by decide +kernel
    exact this ⟨d, h⟩
  · rw [List.getD_eq_getElem?_getD, List.getElem?_eq_none (by show MOVESs.length ≤ d; have : MOVESs.length = 3 := rfl; omega)]
    exact Nat.zero_le _
theorem SIDES_len : ∀ d : Nat, (SIDESs.getD d Str.empty).length ≤ 5 := by
  intro d
  by_cases h : d < 2
  · have : ∀ d : Fin 2, (SIDESs.getD d.val Str.empty).length ≤ 5 := by decide +kernel
    exact this ⟨d, h⟩
  · rw [List.getD_eq_getElem?_getD, List.getElem?_eq_none (by show SIDESs.length ≤ d; have : SIDESs.length = 2 := rfl; omega)]
    exact Nat.zero_le _
theorem sum_le {n : Nat} : ∀ l : List Str, (∀ s ∈ l, s.length ≤ n) → (l.map (·.length)).sum ≤ l.length * n
  | [], _ => by simp
  | x :: r, h => by
    have h1 := h x (List.mem_cons_self ..)
    have h2 := sum_le r fun s hs => h s (List.mem_cons_of_mem _ hs)
    rw [List.map_cons, List.sum_cons, List.length_cons, Nat.succ_mul]
    omega
theorem joinL_len (S : List Nat) : ∀ l : List (List Nat), (TL.joinL S l).length ≤ (l.map (·.length)).sum + l.length * S.length
  | [] => Nat.zero_le _
  | [p] => by simp [TL.joinL]
  | p :: q :: r => by
    have h := joinL_len S (q :: r)
    unfold TL.joinL
    rw [List.length_append, List.length_append, List.map_cons, List.sum_cons, List.length_cons (as := q :: r), Nat.succ_mul]
    omega
theorem join_len (y : Str) (l : List Str) : (Txt.join y l).length ≤ (l.map (·.length)).sum + l.length * y.length := by
  rw [TL.join_eq, TL.len_tl, TL.tl_join, TL.len_tl y]
  have h := joinL_len (TL.tl y) (l.map TL.tl)
  rw [List.map_map, List.length_map] at h
  have e : (l.map ((fun x : List Nat => x.length) ∘ TL.tl)) = l.map (·.length) := List.map_congr_left fun x _ => (TL.len_tl x).symm
  rw [e] at h
  exact h
theorem join_small {l : List Str} (h1 : ∀ s ∈ l, s.length ≤ 8) (h2 : l.length ≤ 8) : (l.map (·.length)).sum + l.length * (" " : Str).length ≤ 72 ∧ (Txt.join " " l).length ≤ 72 := by
  have h3 := sum_le l h1
  have h4 := join_len " " l
  rw [lits.2.2.2.2.2.2.2.1] at h4 ⊢
  omega
/-- the heap without one object -/
def Less (L : Addr) (H : Hp) : Hp := fun b => if b = L then none else H b
theorem Less_none {L : Addr} {H : Hp} : Less L H L = none := if_pos rfl
theorem Less_at {L b : Addr} {H : Hp} {o : HO} (h : H b = some o) (n : b ≠ L) : Less L H b = some o := by unfold Less; rw [if_neg n]; exact h
theorem Less_same {L : Addr} {H : Hp} : Same (Less L H) H := fun b o e => by
  unfold Less at e
  by_cases n : b = L
  · rw [if_pos n] at e; cases e
  · rw [if_neg n] at e; exact e
theorem Less_from {L : Addr} {G H : Hp} (s : Same G H) (n : G L = none) : Same G (Less L H) := fun b o e => Less_at (s b o e) fun q => by rw [q, n] at e; cases e
theorem map_snoc (l : List Str) (x : Str) : l.map V.str ++ [V.str x] = (l ++ [x]).map V.str := by rw [List.map_append]; rfl
theorem rob_len {r : Int × Nat} (h : 0 ≤ r.1 ∧ r.1 ≤ 16 ∧ r.2 < 2) : (nS r.1).length ≤ 2 := nS_small _ h.1 h.2.1
theorem ruKeys {H : Hp} {kvs : List (List Key × V)} {l : List ((Nat × Nat) × Nat × Nat × Nat)} (hp : Paired (RuAt H) kvs l) : kvs.map (·.1) = (l.map fun r => ((r.1.1 : Int), (r.1.2 : Int))).map fun p => [Sum.inl p.1, Sum.inl p.2] := by
  induction hp with
  | nil => rfl
  | cons h t ih => rw [List.map_cons, List.map_cons, List.map_cons, ih, h.1]
def toN (p : Int × Int) : Nat × Nat := (p.1.toNat, p.2.toNat)
theorem toN_perm {zs : List (Int × Int)} {l : List ((Nat × Nat) × Nat × Nat × Nat)} (h : zs.Perm (l.map fun r => ((r.1.1 : Int), (r.1.2 : Int)))) : (zs.map toN).Perm (l.map (·.1)) := by
  have := h.map toN
  rw [List.map_map] at this
  have e : (l.map (toN ∘ fun r => ((r.1.1 : Int), (r.1.2 : Int)))) = l.map (·.1) := List.map_congr_left fun r _ => by
    show (((r.1.1 : Nat) : Int).toNat, ((r.1.2 : Nat) : Int).toNat) = r.1
    rw [Int.toNat_natCast, Int.toNat_natCast]
  rw [e] at this
  exact this
theorem toN_back {zs : List (Int × Int)} {l : List ((Nat × Nat) × Nat × Nat × Nat)} (h : zs.Perm (l.map fun r => ((r.1.1 : Int), (r.1.2 : Int)))) : ∀ z ∈ zs, z = (((toN z).1 : Int), ((toN z).2 : Int)) ∧ toN z ∈ l.map (·.1) := fun z hz => by
  have h1 := h.mem_iff.mp hz
  obtain ⟨r, hr, rfl⟩ := List.mem_map.mp h1
  refine ⟨by simp [toN], List.mem_map.mpr ⟨r, hr, by simp [toN]⟩⟩
theorem toN_sorted {zs : List (Int × Int)} {l : List ((Nat × Nat) × Nat × Nat × Nat)} (h : zs.Perm (l.map fun r => ((r.1.1 : Int), (r.1.2 : Int)))) (hs : zs.Pairwise fun x y => SrtO.lexB y x = false) : (zs.map toN).Pairwise lexN := by
  refine List.pairwise_map.mpr (List.Pairwise.imp_of_mem (fun {x y} hx hy q => ?_) hs)
  have ex := (toN_back h x hx).1
  have ey := (toN_back h y hy).1
  have q' := SrtO.lexB_no.mp q
  rw [ex, ey] at q'
  dsimp only at q'
  unfold lexN
  omega
theorem canonL_small {pd : PlanD} {ts : List Int} {rs : List (Nat × Nat)} (S : Small pd) (ht : PutsOf pd ts) (hr : RulesOf pd rs) : ∀ s ∈ canonL pd ts rs, s.length ≤ 200 := by
  intro s hs
  obtain ⟨z1, z2, z3, z4, z5, z6, z7, z8, z9⟩ := lits
  have j1 := join_small S.sg S.sn
  have j2 := join_small S.md S.mn
  have n1 := nS_small _ S.sz.1 S.sz.2
  unfold canonL at hs
  rw [List.mem_append, List.mem_append, List.mem_append] at hs
  rcases hs with ((hs | hs) | hs) | hs
  · rw [List.mem_cons, List.mem_cons, List.mem_cons] at hs
    rcases hs with rfl | rfl | rfl | hs
    · unfold lnCor; simp only [slen_app, slen_empty]; omega
    · unfold lnSigns; simp only [slen_app, slen_empty]; omega
    · unfold lnMoods; simp only [slen_app, slen_empty]; omega
    · cases hs
  · obtain ⟨r, hr, rfl⟩ := List.mem_map.mp hs
    have B := S.rb r hr
    have n2 := nS_small _ B.1 B.2.1
    have n3 := SIDES_len r.2
    unfold robL lnRob; simp only [slen_app, slen_empty]; omega
  · obtain ⟨t, h1, h2⟩ := List.mem_flatMap.mp hs
    obtain ⟨m, hm1, hm2⟩ := putAt_mem (ht.1.mem_iff.mp h1)
    have B := S.pt _ hm2
    have n2 := nS_small _ B.1 B.2.1
    have n3 := getD_len S.sg B.2.2
    unfold putL at h2
    rw [hm1] at h2
    dsimp only at h2 B n2 n3
    by_cases hz : m = 0
    · rw [if_pos hz] at h2; cases h2
    · rw [if_neg hz, List.mem_singleton] at h2
      rw [h2]
      unfold lnPut; simp only [slen_app, slen_empty]; omega
  · obtain ⟨q, h1, rfl⟩ := List.mem_map.mp hs
    obtain ⟨⟨i, d, l⟩, hr1, hr2⟩ := ruleAt_mem (hr.1.mem_iff.mp h1)
    have B := S.rl _ hr2
    dsimp only at B
    have l1 := getD_len S.md B.1
    have l2 := getD_len S.sg B.2.1
    have l3 := getD_len S.sg B.2.2.1
    have l4 := MOVES_len d
    have l5 := getD_len S.md B.2.2.2.2
    unfold ruleL
    rw [hr1]
    dsimp only
    unfold lnRule lnSeen lnDone; simp only [slen_app, slen_empty]; omega
theorem pt_no : ∀ {l : List (Int × Nat)} {t : Int}, putAt l t = none → valV (ptV l) (Sum.inl t) = none
  | [], _, _ => rfl
  | x :: r, t, h => by
    unfold putAt at h
    show valV ((Sum.inl x.1, V.int (x.2 : Int)) :: ptV r) (Sum.inl t) = none
    by_cases e : x.1 = t
    · rw [if_pos e] at h; cases h
    · rw [if_neg e] at h
      rw [valV_neg fun q => e (Sum.inl.inj q)]
      exact pt_no h
/-- a robot as it is told -/
theorem r_joinL {p : Addr} {sep : Str} {ys : List Str} {K : PySem.W.Frag} {H : Hp} {R : Str → Addr → List Str → Prop} (e : H p = some (.lst (ys.map V.str))) (hl : (ys.map (·.length)).sum + ys.length * sep.length ≤ 16777216) (h : R sep p ys) :
    ∃ a' p', ∃ ys' : List Str, V.str sep = .str a' ∧ [V.ref p] = [.ref p'] ∧ (SqL K H p' (ys'.map V.str) ∨ SqT K H p' (ys'.map V.str)) ∧ (ys'.map (·.length)).sum + ys'.length * a'.length ≤ 16777216 ∧ R a' p' ys' := ⟨sep, p, ys, rfl, rfl, .inl (SqL.of e), hl, h⟩
section
variable {P : Program} {w : World} {K : PySem.W.Frag} {mg : Str → Option Value} {base : Heap} {a : Adr}
theorem ok_rule_line {f : Addr} {fd : FuncData} (F : Fun K "rule_line" "rule_line" s_rule_line f fd) (T : Txt w K mg a)
     :
    FnOk P w K mg base CX0 1 f fd ps_rule_line (sp_rule_line K a) := by
  refine F.ok sc_rule_line (fun vs H Q E h => ?_) (fun cdv A outer s H vs Q E hr h => ?_)
  · obtain ⟨A, pd, kk, rfl, hA, S, hk, k⟩ := h
    rfl
  obtain ⟨A, pd, kk, rfl, hA, S, hk, k⟩ := h
  have hu := hu_of hr
  refine ⟨_, 
    (pss_cons (ps_asg (pe_dget hu (pe_fld (pv 0) rfl) (pe_tup (pa_cons (pv 1) (pa_cons (pv 2) pa_nil))) (fun _ _ => rfl)) (pg_tup rfl (pgs_cons (pg_name (i := 3) sc_rule_line.nd rfl (.inl rfl)) (pgs_cons (pg_name (i := 4) sc_rule_line.nd rfl (.inl rfl)) (pgs_cons (pg_name (i := 5) sc_rule_line.nd rfl (.inl rfl)) pgs_nil))))) 
    (pss_cons (ps_set (i := 6) sc_rule_line.nd rfl (.inl rfl) (pe_joined (PJ.cons pe_str (PJ.cons (pe_fmt (pe_ix ix_list (pe_fld (pv 0) rfl) (pv 1) (fun _ _ => rfl))) (PJ.cons pe_str (PJ.cons (pe_fmt (pe_ix ix_list (pe_fld (pv 0) rfl) (pv 2) (fun _ _ => rfl))) PJ.nil)))))) 
    (pss_cons (ps_set (i := 7) sc_rule_line.nd rfl (.inl rfl) (pe_joined (PJ.cons pe_str (PJ.cons (pe_fmt (pe_ix ix_list (pe_fld (pv 0) rfl) (pv 3) (fun _ _ => rfl))) (PJ.cons pe_str (PJ.cons (pe_fmt (pe_ix ix_tup (pgR rfl T.g_MOVES) (pv 4) (fun _ _ => rfl))) (PJ.cons pe_str (PJ.cons (pe_fmt (pe_ix ix_list (pe_fld (pv 0) rfl) (pv 5) (fun _ _ => rfl))) PJ.nil)))))))) 
    (pss_one (ps_ret (pe_joined (PJ.cons (pe_fmt (pv 6)) (PJ.cons pe_str (PJ.cons (pe_fmt (pv 7)) (PJ.cons pe_str PJ.nil)))))))))), ?_⟩
  obtain ⟨dp, hp⟩ := hA.ob
  obtain ⟨kvs, hkv, hkvs⟩ := hA.rl
  obtain ⟨⟨i, d, l⟩, hr1, hr2⟩ := ruleAt_mem hk
  have B := S.rl _ hr2
  dsimp only at B
  obtain ⟨z1, z2, z3, z4, z5, z6, z7, z8, z9⟩ := lits
  have szl := size_ge
  have l1 := getD_len S.md B.1
  have l2 := getD_len S.sg B.2.1
  have l3 := getD_len S.sg B.2.2.1
  have l4 := MOVES_len d
  have l5 := getD_len S.md B.2.2.2.2
  repeat walk_at "st"
  refine r_fldOf hp T.cl_Plan T.n_Plan_rules rfl ?_
  repeat walk_at "st"
  refine ⟨by show 2 ≤ sizeLine; decide, fun qp np => ?_⟩
  have s1 : Same H (upd H qp (.tup [.int (kk.1 : Nat), .int (kk.2 : Nat)])) := Same.new np
  have hqp : (upd H qp (.tup [.int (kk.1 : Nat), .int (kk.2 : Nat)])) qp = some (.tup ([Sum.inl (kk.1 : Int), Sum.inl (kk.2 : Int)].map kV)) := upd_same
  generalize upd H qp (.tup [.int (kk.1 : Nat), .int (kk.2 : Nat)]) = H1 at *
  obtain ⟨q, hv, hq⟩ := rl_get hkvs hr1
  dsimp only at hq
  refine r_dOf (v := .ref q) (by rw [← hv]; exact DGet.t (s1 _ _ hkv) hqp) ?_
  refine r_gTup (xs := [.int (i : Int), .int (d : Int), .int (l : Int)]) (SqT.of (s1 _ _ hq)) rfl ?_
  repeat walk_at "st"
  have hA1 := hA.mono s1
  repeat (first | walk_at "st" | refine r_js ?_ | refine r_js0 ?_ | refine ⟨by (simp only [slen_app, slen_empty]; omega), ?_⟩)
  refine r_fldOf (s1 _ _ hp) T.cl_Plan T.n_Plan_moods rfl ?_
  repeat (first | walk_at "st" | refine r_js ?_ | refine r_js0 ?_ | refine ⟨by (simp only [slen_app, slen_empty]; omega), ?_⟩)
  refine r_ixL (SqL.of hA1.md) (nat_at (map_getD B.1)) ?_
  refine r_fmt (by omega) ?_
  repeat (first | walk_at "st" | refine r_js ?_ | refine r_js0 ?_ | refine ⟨by (simp only [slen_app, slen_empty]; omega), ?_⟩)
  refine r_fldOf (s1 _ _ hp) T.cl_Plan T.n_Plan_signs rfl ?_
  repeat (first | walk_at "st" | refine r_js ?_ | refine r_js0 ?_ | refine ⟨by (simp only [slen_app, slen_empty]; omega), ?_⟩)
  refine r_ixL (SqL.of hA1.sg) (nat_at (map_getD B.2.1)) ?_
  refine r_fmt (by omega) ?_
  repeat (first | walk_at "st" | refine r_js ?_ | refine r_js0 ?_ | refine ⟨by (simp only [slen_app, slen_empty]; omega), ?_⟩)
  refine r_fldOf (s1 _ _ hp) T.cl_Plan T.n_Plan_signs rfl ?_
  repeat (first | walk_at "st" | refine r_js ?_ | refine r_js0 ?_ | refine ⟨by (simp only [slen_app, slen_empty]; omega), ?_⟩)
  refine r_ixL (SqL.of hA1.sg) (nat_at (map_getD B.2.2.1)) ?_
  refine r_fmt (by omega) ?_
  repeat (first | walk_at "st" | refine r_js ?_ | refine r_js0 ?_ | refine ⟨by (simp only [slen_app, slen_empty]; omega), ?_⟩)
  refine r_ixT (xs := MOVESs.map V.str) T.t_MOVES.sq (nat_at (map_getD (show d < MOVESs.length from B.2.2.2.1))) ?_
  refine r_fmt (by omega) ?_
  repeat (first | walk_at "st" | refine r_js ?_ | refine r_js0 ?_ | refine ⟨by (simp only [slen_app, slen_empty]; omega), ?_⟩)
  refine r_fldOf (s1 _ _ hp) T.cl_Plan T.n_Plan_moods rfl ?_
  repeat (first | walk_at "st" | refine r_js ?_ | refine r_js0 ?_ | refine ⟨by (simp only [slen_app, slen_empty]; omega), ?_⟩)
  refine r_ixL (SqL.of hA1.md) (nat_at (map_getD B.2.2.2.2)) ?_
  refine r_fmt (by omega) ?_
  repeat (first | walk_at "st" | refine r_js ?_ | refine r_js0 ?_ | refine ⟨by (simp only [slen_app, slen_empty]; omega), ?_⟩)
  refine r_fmt (by (simp only [slen_app, slen_empty]; omega)) ?_
  repeat (first | walk_at "st" | refine r_js ?_ | refine r_js0 ?_ | refine ⟨by (simp only [slen_app, slen_empty]; omega), ?_⟩)
  refine r_fmt (by (simp only [slen_app, slen_empty]; omega)) ?_
  repeat (first | walk_at "st" | refine r_js ?_ | refine r_js0 ?_ | refine ⟨by (simp only [slen_app, slen_empty]; omega), ?_⟩)
  have kq := k H1 s1
  unfold ruleL at kq
  rw [hr1] at kq
  exact kq
theorem ok_canonical_text {f : Addr} {fd : FuncData} (F : Fun K "canonical_text" "canonical_text" s_canonical_text f fd) (T : Txt w K mg a)
    {f_rule_line : Addr} {fd_rule_line : FuncData} (G_rule_line : Cal P w K mg base "rule_line" 1 f_rule_line fd_rule_line ps_rule_line (sp_rule_line K a)) :
    FnOk P w K mg base CX0 2 f fd ps_canonical_text (sp_canonical_text K a) := by
  refine F.ok sc_canonical_text (fun vs H Q E h => ?_) (fun cdv A outer s H vs Q E hr h => ?_)
  · obtain ⟨A, pd, rfl, hA, S, k⟩ := h
    rfl
  obtain ⟨A, pd, rfl, hA, S, k⟩ := h
  have hu := hu_of hr
  refine ⟨_, 
    (pss_cons (ps_set (i := 1) sc_canonical_text.nd rfl (.inl rfl) (pe_join pe_str (pe_fld (pv 0) rfl))) 
    (pss_cons (ps_set (i := 2) sc_canonical_text.nd rfl (.inl rfl) (pe_join pe_str (pe_fld (pv 0) rfl))) 
    (pss_cons (ps_set (i := 3) sc_canonical_text.nd rfl (.inl rfl) (pe_lst (pa_cons (pe_joined (PJ.cons pe_str (PJ.cons (pe_fmt (pe_fld (pv 0) rfl)) (PJ.cons pe_str PJ.nil)))) (pa_cons (pe_joined (PJ.cons pe_str (PJ.cons (pe_fmt (pv 1)) (PJ.cons pe_str PJ.nil)))) (pa_cons (pe_joined (PJ.cons pe_str (PJ.cons (pe_fmt (pv 2)) (PJ.cons pe_str PJ.nil)))) pa_nil))))) 
    (pss_cons (ps_for PassesOwn.never rfl (pi_list (pe_fld (pv 0) rfl)) (pg_tup rfl (pgs_cons (pg_name (i := 4) sc_canonical_text.nd rfl (.inl rfl)) (pgs_cons (pg_name (i := 5) sc_canonical_text.nd rfl (.inl rfl)) pgs_nil))) 
      (pss_one (ps_expr (pe_bm PySem.F.plainAttrs_list PySem.F.slot_list_append PySem.F.type_list_append mt_append (pv 3) (pa_cons (pe_joined (PJ.cons pe_str (PJ.cons (pe_fmt (pv 4)) (PJ.cons pe_str (PJ.cons (pe_fmt (pe_ix ix_tup (pgR rfl T.g_SIDES) (pv 5) (fun _ _ => rfl))) (PJ.cons pe_str PJ.nil)))))) pa_nil))))) 
    (pss_cons (ps_for PassesOwn.never rfl (pi_list (pe_callB (call_sortedDI rfl) (by rfl) T.n_sorted (by decide +kernel) (pa_cons (pe_fld (pv 0) rfl) pa_nil))) (pg_name (i := 4) sc_canonical_text.nd rfl (.inl rfl)) 
      (pss_one (ps_if (pt_cmpR op_ne (pe_dget hu (pe_fld (pv 0) rfl) (pv 4) (fun _ _ => rfl)) pe_int (nomark _)) 
        (pss_one (ps_expr (pe_bm PySem.F.plainAttrs_list PySem.F.slot_list_append PySem.F.type_list_append mt_append (pv 3) (pa_cons (pe_joined (PJ.cons pe_str (PJ.cons (pe_fmt (pe_ix ix_list (pe_fld (pv 0) rfl) (pe_dget hu (pe_fld (pv 0) rfl) (pv 4) (fun _ _ => rfl)) (fun _ _ => rfl))) (PJ.cons pe_str (PJ.cons (pe_fmt (pv 4)) (PJ.cons pe_str PJ.nil)))))) pa_nil)))) pss_nil))) 
    (pss_cons (ps_for PassesOwn.never rfl (pi_list (pe_callB (cr_sortedDP rfl) (by rfl) T.n_sorted (by decide +kernel) (pa_cons (pe_fld (pv 0) rfl) pa_nil))) (pg_tup rfl (pgs_cons (pg_name (i := 6) sc_canonical_text.nd rfl (.inl rfl)) (pgs_cons (pg_name (i := 7) sc_canonical_text.nd rfl (.inl rfl)) pgs_nil))) 
      (pss_one (ps_expr (pe_bm PySem.F.plainAttrs_list PySem.F.slot_list_append PySem.F.type_list_append mt_append (pv 3) (pa_cons (pe_call G_rule_line.ok (hr.mono (by decide)) rfl G_rule_line.mg' G_rule_line.kp G_rule_line.b .nil pass0 (pa_cons (pv 0) (pa_cons (pv 6) (pa_cons (pv 7) pa_nil)))) pa_nil))))) 
    (pss_one (ps_ret (pe_join pe_str (pv 3)))))))))), ?_⟩
  obtain ⟨dp, hp⟩ := hA.ob
  obtain ⟨qs, hrb, hrbs⟩ := hA.rb
  obtain ⟨kvs, hkv, hkvs⟩ := hA.rl
  obtain ⟨z1, z2, z3, z4, z5, z6, z7, z8, z9⟩ := lits
  have szl := size_ge
  have j1 := join_small S.sg S.sn
  have j2 := join_small S.md S.mn
  have n1 : (Str.ofString (toString pd.size)).length ≤ 2 := nS_small _ S.sz.1 S.sz.2
  repeat walk_at "st"
  refine r_fldOf hp T.cl_Plan T.n_Plan_signs rfl ?_
  refine r_joinL hA.sg (by omega) ?_
  repeat walk_at "st"
  refine r_fldOf hp T.cl_Plan T.n_Plan_moods rfl ?_
  refine r_joinL hA.md (by omega) ?_
  repeat (first | walk_at "st" | refine r_js ?_ | refine r_js0 ?_ | refine ⟨by (simp only [slen_app, slen_empty]; omega), ?_⟩)
  refine r_fldOf hp T.cl_Plan T.n_Plan_size rfl ?_
  refine r_fmtI (log_small S.sz.1 S.sz.2) ?_
  repeat (first | walk_at "st" | refine r_js ?_ | refine r_js0 ?_ | refine ⟨by (simp only [slen_app, slen_empty]; omega), ?_⟩)
  refine r_fmt (by omega) ?_
  repeat (first | walk_at "st" | refine r_js ?_ | refine r_js0 ?_ | refine ⟨by (simp only [slen_app, slen_empty]; omega), ?_⟩)
  refine r_fmt (by omega) ?_
  repeat (first | walk_at "st" | refine r_js ?_ | refine r_js0 ?_ | refine ⟨by (simp only [slen_app, slen_empty]; omega), ?_⟩)
  refine ⟨by show 3 ≤ sizeLine; omega, fun L nL => ?_⟩
  have s1 : Same H (upd H L (.lst [.str (lnCor pd.size), .str (lnSigns (Txt.join " " pd.signs)), .str (lnMoods (Txt.join " " pd.moods))])) := Same.new nL
  have g1 : (upd H L (.lst [.str (lnCor pd.size), .str (lnSigns (Txt.join " " pd.signs)), .str (lnMoods (Txt.join " " pd.moods))])) L = some (.lst ([lnCor pd.size, lnSigns (Txt.join " " pd.signs), lnMoods (Txt.join " " pd.moods)].map V.str)) := upd_same
  show gName 3 (.ref L) _ (upd H L (.lst [.str (lnCor pd.size), .str (lnSigns (Txt.join " " pd.signs)), .str (lnMoods (Txt.join " " pd.moods))])) _
  generalize upd H L (.lst [.str (lnCor pd.size), .str (lnSigns (Txt.join " " pd.signs)), .str (lnMoods (Txt.join " " pd.moods))]) = H1 at s1 g1 ⊢
  obtain ⟨L3, hL3⟩ : ∃ l, l = [lnCor pd.size, lnSigns (Txt.join " " pd.signs), lnMoods (Txt.join " " pd.moods)] := ⟨_, rfl⟩
  rw [← hL3] at g1
  have hl3 : L3.length = 3 := by rw [hL3]; rfl
  repeat walk_at "st"
  refine r_fldOf (s1 _ _ hp) T.cl_Plan T.n_Plan_robots rfl ?_
  refine r_itL (SqL.of (s1 _ _ hrb)) ?_
  refine for_list (xs := qs.map V.ref) (fun i σ H3 => Same H H3 ∧ H3 L = some (.lst ((L3 ++ (pd.robots.take i).map robL).map V.str)) ∧ ∃ x y u v, σ = [some (.ref A.p), some (.str (Txt.join " " pd.signs)), some (.str (Txt.join " " pd.moods)), some (.ref L), x, y, u, v])
    ⟨s1, by rw [List.take_zero, List.map_nil, List.append_nil]; exact g1, _, _, _, _, rfl⟩ ?_ ?_ ?_
  · rintro i σ H3 _ ⟨s3, _⟩
    exact SqL.of (s3 _ _ hrb)
  · rintro i x σ H3 hx ⟨s3, g3, x1, x2, x3, x4, rfl⟩
    rw [List.getElem?_map] at hx
    cases hq : qs[i]? with
    | none => rw [hq] at hx; cases hx
    | some q =>
      rw [hq] at hx
      cases hx
      obtain ⟨r, hr1, hr2⟩ := paired_get hrbs hq
      have B := S.rb r (List.mem_of_getElem? hr1)
      have n2 : (Str.ofString (toString r.1)).length ≤ 2 := nS_small _ B.1 B.2.1
      have n3 := SIDES_len r.2
      have n4 := S.rn
      refine r_gTup (xs := [.int r.1, .int (r.2 : Int)]) (SqT.of (s3 _ _ hr2)) rfl ?_
      repeat walk_at "st"
      refine r_tyL (SqL.of g3) ?_
      repeat (first | walk_at "st" | refine r_js ?_ | refine r_js0 ?_ | refine ⟨by (simp only [slen_app, slen_empty]; omega), ?_⟩)
      refine r_fmtI (log_small B.1 B.2.1) ?_
      repeat (first | walk_at "st" | refine r_js ?_ | refine r_js0 ?_ | refine ⟨by (simp only [slen_app, slen_empty]; omega), ?_⟩)
      refine r_ixT (xs := SIDESs.map V.str) T.t_SIDES.sq (nat_at (map_getD (show r.2 < SIDESs.length from B.2.2))) ?_
      refine r_fmt (by omega) ?_
      repeat (first | walk_at "st" | refine r_js ?_ | refine r_js0 ?_ | refine ⟨by (simp only [slen_app, slen_empty]; omega), ?_⟩)
      refine r_app g3 (by rw [List.length_map, List.length_append, List.length_map, List.length_take]; omega) ?_
      refine ⟨Same.mut s3 nL, ?_, _, _, _, _, rfl⟩
      rw [upd_same, List.take_add_one, hr1, List.map_append, List.map_append, List.map_append, List.map_append, List.append_assoc]
      rfl
  rintro σ H3 ⟨s3, g3, x1, x2, x3, x4, rfl⟩
  rw [List.length_map, PySem.Paired.length hrbs, List.take_length] at g3
  obtain ⟨L4, hL4⟩ : ∃ l, l = L3 ++ pd.robots.map robL := ⟨_, rfl⟩
  rw [← hL4] at g3
  have hl4 : L4.length ≤ 6 := by rw [hL4, List.length_append, List.length_map]; have := S.rn; omega
  repeat walk_at "st"
  refine r_fldOf (s3 _ _ hp) T.cl_Plan T.n_Plan_puts rfl ?_
  refine ⟨A.pt, ptV pd.puts, pd.puts.map (·.1), rfl, .of (s3 _ _ hA.pt), by unfold ptV; rw [List.map_map, List.map_map]; rfl, by rw [List.length_map]; have := S.pn; omega, fun ts pt hts1 hts2 npt => ?_⟩
  have s4 : Same H (Less L (upd H3 pt (.lst (ts.map V.int)))) := Less_from (s3.trans (Same.new npt)) nL
  have s4' : Same (Less L (upd H3 pt (.lst (ts.map V.int)))) (upd H3 pt (.lst (ts.map V.int))) := Less_same
  have nG : Less L (upd H3 pt (.lst (ts.map V.int))) L = none := Less_none
  have npL : pt ≠ L := (ne_of_none g3 npt).symm
  have gp : Less L (upd H3 pt (.lst (ts.map V.int))) pt = some (.lst (ts.map V.int)) := Less_at upd_same npL
  have g4 : upd H3 pt (.lst (ts.map V.int)) L = some (.lst (L4.map V.str)) := upd_kept g3 npL.symm
  generalize Less L (upd H3 pt (.lst (ts.map V.int))) = G at s4 s4' nG gp
  generalize upd H3 pt (.lst (ts.map V.int)) = H4 at s4' g4 ⊢
  refine r_itL (SqL.of (s4' _ _ gp)) ?_
  refine for_list (xs := ts.map V.int) (fun i σ H5 => Same G H5 ∧ H5 L = some (.lst ((L4 ++ (ts.take i).flatMap (putL pd)).map V.str)) ∧ ((ts.take i).flatMap (putL pd)).length ≤ i ∧ ∃ x y u v, σ = [some (.ref A.p), some (.str (Txt.join " " pd.signs)), some (.str (Txt.join " " pd.moods)), some (.ref L), x, y, u, v])
    ⟨s4', by rw [List.take_zero, List.flatMap_nil, List.append_nil]; exact g4, by simp, _, _, _, _, rfl⟩ ?_ ?_ ?_
  · rintro i σ H5 _ ⟨s5, _⟩
    exact SqL.of (s5 _ _ gp)
  · rintro i x σ H5 hx ⟨s5, g5, b5, x1, x2, x3, x4, rfl⟩
    rw [List.getElem?_map] at hx
    cases hq : ts[i]? with
    | none => rw [hq] at hx; cases hx
    | some t =>
      rw [hq] at hx
      cases hx
      obtain ⟨hi, e⟩ := List.getElem?_eq_some_iff.mp hq
      obtain ⟨m, hm1, hm2⟩ := putAt_mem (hts1.mem_iff.mp (List.mem_of_getElem? hq))
      have B := S.pt _ hm2
      dsimp only at B
      have n2 : (Str.ofString (toString t)).length ≤ 2 := nS_small _ B.1 B.2.1
      have n3 := getD_len S.sg B.2.2
      have n4 := S.pn
      have n5 := hts1.length_eq
      rw [List.length_map] at n5
      have s6 := s4.trans s5
      have hget : DGet H5 A.pt (.int t) (some (.int (m : Int))) := by rw [← pt_get hm1]; exact DGet.k (k := Sum.inl t) (s6 _ _ hA.pt)
      repeat walk_at "st"
      refine r_fldOf (s6 _ _ hp) T.cl_Plan T.n_Plan_puts rfl ?_
      repeat walk_at "st"
      refine r_dOf hget ?_
      repeat walk_at "st"
      have eL : (ts.take (i + 1)).flatMap (putL pd) = (ts.take i).flatMap (putL pd) ++ putL pd t := by
        rw [List.take_add_one, hq, List.flatMap_append]
        simp
      rw [dec_int]
      refine ite_b (p := m ≠ 0) (by by_cases h : m = 0 <;> simp [h]) (fun hz => ?_) fun hz => ?_
      · repeat walk_at "st"
        refine r_tyL (SqL.of g5) ?_
        repeat (first | walk_at "st" | refine r_js ?_ | refine r_js0 ?_ | refine ⟨by (simp only [slen_app, slen_empty]; omega), ?_⟩)
        refine r_fldOf (s6 _ _ hp) T.cl_Plan T.n_Plan_signs rfl ?_
        repeat walk_at "st"
        refine r_fldOf (s6 _ _ hp) T.cl_Plan T.n_Plan_puts rfl ?_
        repeat walk_at "st"
        refine r_dOf hget ?_
        refine r_ixL (SqL.of (s6 _ _ hA.sg)) (nat_at (map_getD B.2.2)) ?_
        refine r_fmt (by omega) ?_
        repeat (first | walk_at "st" | refine r_js ?_ | refine r_js0 ?_ | refine ⟨by (simp only [slen_app, slen_empty]; omega), ?_⟩)
        refine r_fmtI (log_small B.1 B.2.1) ?_
        repeat (first | walk_at "st" | refine r_js ?_ | refine r_js0 ?_ | refine ⟨by (simp only [slen_app, slen_empty]; omega), ?_⟩)
        refine r_app g5 (by rw [List.length_map, List.length_append]; omega) ?_
        have ep : putL pd t = [lnPut (pd.signs.getD m Str.empty) t] := by unfold putL; rw [hm1]; dsimp only; rw [if_neg hz]
        refine ⟨Same.mut s5 nG, ?_, ?_, _, _, _, _, rfl⟩
        · rw [upd_same, eL, ep, ← List.append_assoc, List.map_append (l₁ := L4 ++ _)]
          rfl
        · rw [eL, ep, List.length_append]
          show _ + 1 ≤ _
          omega
      · repeat walk_at "st"
        have ep : putL pd t = [] := by unfold putL; rw [hm1]; dsimp only; rw [if_pos (Decidable.not_not.mp hz)]
        rw [eL, ep, List.append_nil]
        exact ⟨s5, g5, by omega, _, _, _, _, rfl⟩
  rintro σ H5 ⟨s5, g5, b5, x1, x2, x3, x4, rfl⟩
  rw [List.length_map] at b5 g5
  rw [List.take_length] at b5 g5
  obtain ⟨L5, hL5⟩ : ∃ l, l = L4 ++ ts.flatMap (putL pd) := ⟨_, rfl⟩
  have hl5 : L5.length ≤ 22 := by
    rw [hL5, List.length_append]
    have := hts1.length_eq
    rw [List.length_map] at this
    have := S.pn
    omega
  rw [← hL5] at g5
  have s6 := s4.trans s5
  clear s4 s4' nG gp g4 npL
  repeat walk_at "st"
  refine r_fldOf (s6 _ _ hp) T.cl_Plan T.n_Plan_rules rfl ?_
  refine ⟨A.rl, kvs, _, rfl, .of (s6 _ _ hkv), ruKeys hkvs, fun ys zs pt2 hz1 hz2 npt2 hpz => ?_⟩
  have s7 : Same H (Less L (upd H5 pt2 (.lst (ys.map V.ref)))) := Less_from (s6.trans (Same.new npt2)) nL
  have s7' : Same (Less L (upd H5 pt2 (.lst (ys.map V.ref)))) (upd H5 pt2 (.lst (ys.map V.ref))) := Less_same
  have nG : Less L (upd H5 pt2 (.lst (ys.map V.ref))) L = none := Less_none
  have npL : pt2 ≠ L := (ne_of_none g5 npt2).symm
  have gp : Less L (upd H5 pt2 (.lst (ys.map V.ref))) pt2 = some (.lst (ys.map V.ref)) := Less_at upd_same npL
  have g7 : upd H5 pt2 (.lst (ys.map V.ref)) L = some (.lst (L5.map V.str)) := upd_kept g5 npL.symm
  have hpz : Paired (fun b (z : Int × Int) => Less L (upd H5 pt2 (.lst (ys.map V.ref))) b = some (.tup [.int z.1, .int z.2])) ys zs := Paired.mapP hpz fun b z e =>
    Less_at (Same.new npt2 _ _ e) (ne_of e g5 (by intro z; cases z))
  generalize Less L (upd H5 pt2 (.lst (ys.map V.ref))) = G at s7 s7' nG gp hpz
  generalize upd H5 pt2 (.lst (ys.map V.ref)) = H7 at s7' g7 ⊢
  have hzl : zs.length ≤ 63 := by
    have := hz1.length_eq
    rw [List.length_map] at this
    have := S.ru
    omega
  have hRO : RulesOf pd (zs.map toN) := ⟨toN_perm hz1, toN_sorted hz1 hz2⟩
  refine r_itL (SqL.of (s7' _ _ gp)) ?_
  refine for_list (xs := ys.map V.ref) (fun i σ H8 => Same G H8 ∧ H8 L = some (.lst ((L5 ++ ((zs.map toN).take i).map (ruleL pd)).map V.str)) ∧ ∃ x y u v, σ = [some (.ref A.p), some (.str (Txt.join " " pd.signs)), some (.str (Txt.join " " pd.moods)), some (.ref L), x, y, u, v])
    ⟨s7', by rw [List.take_zero, List.map_nil, List.append_nil]; exact g7, _, _, _, _, rfl⟩ ?_ ?_ ?_
  · rintro i σ H8 _ ⟨s8, _⟩
    exact SqL.of (s8 _ _ gp)
  · rintro i x σ H8 hx ⟨s8, g8, x1, x2, x3, x4, rfl⟩
    rw [List.getElem?_map] at hx
    cases hq : ys[i]? with
    | none => rw [hq] at hx; cases hx
    | some q =>
      rw [hq] at hx
      cases hx
      obtain ⟨z, hr1, hr2⟩ := paired_get hpz hq
      obtain ⟨hb1, hb2⟩ := toN_back hz1 z (List.mem_of_getElem? hr1)
      refine r_gTup (xs := [.int z.1, .int z.2]) (SqT.of (s8 _ _ hr2)) rfl ?_
      repeat walk_at "st"
      refine r_tyL (SqL.of g8) ?_
      repeat walk_at "st"
      refine ⟨A, pd, toN z, ?_, hA.mono (s7.trans s8), S, hb2, fun H9 s9 => ?_⟩
      · rw [hb1]; rfl
      repeat walk_at "st"
      refine r_app (s9 _ _ g8) (by rw [List.length_map, List.length_append, List.length_map, List.length_take, List.length_map]; omega) ?_
      refine ⟨Same.mut (s8.trans s9) nG, ?_, _, _, _, _, rfl⟩
      rw [upd_same, List.take_add_one (l := zs.map toN), List.getElem?_map, hr1, List.map_append, List.map_append, List.map_append, List.map_append, List.append_assoc]
      rfl
  rintro σ H8 ⟨s8, g8, x1, x2, x3, x4, rfl⟩
  have hlz : (ys.map V.ref).length = (zs.map toN).length := by rw [List.length_map, List.length_map, PySem.Paired.length hpz]
  rw [hlz, List.take_length] at g8
  have eC : L5 ++ (zs.map toN).map (ruleL pd) = canonL pd ts (zs.map toN) := by rw [hL5, hL4, hL3]; rfl
  rw [eC] at g8
  have hPO : PutsOf pd ts := ⟨hts1, hts2⟩
  have b1 := sum_le _ (canonL_small S hPO hRO)
  have b2 : (canonL pd ts (zs.map toN)).length ≤ 85 := by rw [← eC, List.length_append, List.length_map, List.length_map]; omega
  have b3 : ("\n" : Str).length = 1 := by decide +kernel
  repeat walk_at "st"
  refine r_joinL g8 (by rw [b3]; omega) ?_
  exact k _ ts _ (s7.trans s8) hPO hRO
theorem ok_format_plan {f : Addr} {fd : FuncData} (F : Fun K "format_plan" "format_plan" s_format_plan f fd) (T : Txt w K mg a)
    {f_canonical_text : Addr} {fd_canonical_text : FuncData} (G_canonical_text : Cal P w K mg base "canonical_text" 2 f_canonical_text fd_canonical_text ps_canonical_text (sp_canonical_text K a))
    {f_read_plan : Addr} {fd_read_plan : FuncData} (G_read_plan : Cal P w K mg base "read_plan" 11 f_read_plan fd_read_plan ps_read_plan (sp_read_plan K a)) :
    FnOk P w K mg base CX0 12 f fd ps_format_plan (sp_format_plan K a) := by
  refine F.ok sc_format_plan (fun vs H Q E h => ?_) (fun cdv A outer s H vs Q E hr h => ?_)
  · obtain ⟨z, pd, ts, ss, rfl, G, S, k⟩ := h
    rfl
  obtain ⟨z, pd, ts, ss, rfl, G, S, k⟩ := h
  have hu := hu_of hr
  refine ⟨_, 
    (pss_one (ps_ret (pe_call G_canonical_text.ok (hr.mono (by decide)) rfl G_canonical_text.mg' G_canonical_text.kp G_canonical_text.b .nil pass0 (pa_cons (pe_call G_read_plan.ok (hr.mono (by decide)) rfl G_read_plan.mg' G_read_plan.kp G_read_plan.b .nil pass0 (pa_cons (pv 0) pa_nil)) pa_nil)))), ?_⟩
  repeat walk_at "st"
  refine ⟨z, pd, ts, ss, rfl, G, fun H1 A hA s1 hf => ?_⟩
  repeat walk_at "st"
  refine ⟨A, pd, rfl, hA, S, fun H2 t r s2 h1 h2 => ?_⟩
  exact k H2 t r (s1.trans s2) h1 h2
theorem ok_signs_of {f : Addr} {fd : FuncData} (F : Fun K "signs_of" "signs_of" s_signs_of f fd) (T : Txt w K mg a)
    {f_read_plan : Addr} {fd_read_plan : FuncData} (G_read_plan : Cal P w K mg base "read_plan" 11 f_read_plan fd_read_plan ps_read_plan (sp_read_plan K a)) :
    FnOk P w K mg base CX0 12 f fd ps_signs_of (sp_signs_of K a) := by
  refine F.ok sc_signs_of (fun vs H Q E h => ?_) (fun cdv A outer s H vs Q E hr h => ?_)
  · obtain ⟨z, pd, ts, ss, rfl, G, k⟩ := h
    rfl
  obtain ⟨z, pd, ts, ss, rfl, G, k⟩ := h
  have hu := hu_of hr
  refine ⟨_, 
    (pss_one (ps_ret (pe_callTy call_list_of (by rfl) T.n_list (by decide +kernel) (pa_cons (pe_fld (pe_call G_read_plan.ok (hr.mono (by decide)) rfl G_read_plan.mg' G_read_plan.kp G_read_plan.b .nil pass0 (pa_cons (pv 0) pa_nil)) rfl) pa_nil)))), ?_⟩
  repeat walk_at "st"
  refine ⟨z, pd, ts, ss, rfl, G, fun H1 A hA s1 hf => ?_⟩
  obtain ⟨dp, hp⟩ := hA.ob
  repeat walk_at "st"
  refine r_fldOf hp T.cl_Plan T.n_Plan_signs rfl ?_
  repeat walk_at "st"
  refine ⟨A.sg, _, rfl, .inl (SqL.of hA.sg), fun l nl => ?_⟩
  exact k _ l (s1.trans (Same.new nl)) (none_back s1 nl) upd_same
end
end Sw

/-! The draws: what the statements take their inputs from. -/
namespace Sw
open PySem L2
/-- a list of ints, two at least: the state of the draws -/
def DAt (H : Hp) (D : Addr) : Prop := ∃ (s c : Int) (r : List Int), r.length ≤ 63 ∧ H D = some (.lst ((s :: c :: r).map V.int))
def sp_l_random (K : PySem.W.Frag) (a : Adr) : Sp := fun vs H Q _ => ∃ (l : Addr) (ns : List Int) (salt : Int), vs = [.ref l, .int salt] ∧ SqL K H l (ns.map V.int) ∧ ns.length ≤ 63 ∧ ∀ H' D, Same H H' → DAt H' D → H D = none → Q (.ref D) H'
def sp_l_below (K : PySem.W.Frag) (a : Adr) : Sp := fun vs H Q _ => ∃ (D : Addr) (lim : Int), vs = [.ref D, .int lim] ∧ DAt H D ∧ 0 < lim ∧ lim < 1000000000 ∧ ∀ (r : Nat) H', (r : Int) < lim → Keep D H H' → DAt H' D → Q (.int (r : Int)) H'
def sp_l_shuffled (K : PySem.W.Frag) (a : Adr) : Sp := fun vs H Q _ => ∃ (D l : Addr) (zs : List Str), vs = [.ref D, .ref l] ∧ DAt H D ∧ H l = some (.lst (zs.map V.str)) ∧ zs.length ≤ 900 ∧ (∀ z ∈ zs, PyData.strOk z = true) ∧
  ∀ (H' : Hp) (q : Addr) (ys : List Str), ys.Perm zs → Keep D H H' → DAt H' D → H q = none → H' q = some (.lst (ys.map V.str)) → Q (.ref q) H'
theorem kp_refl {D : Addr} {H : Hp} : Keep D H H := fun _ _ e _ => e
theorem kp_trans {D : Addr} {H H1 H2 : Hp} (a : Keep D H H1) (b : Keep D H1 H2) : Keep D H H2 := fun x o e n => b x o (a x o e n) n
theorem kp_upd {D : Addr} {H H1 : Hp} {o : HO} (a : Keep D H H1) : Keep D H (upd H1 D o) := fun x u e n => by rw [upd_ne n]; exact a x u e n
theorem kp_new {D p : Addr} {H H1 : Hp} {o : HO} (a : Keep D H H1) (n : H1 p = none) : Keep D H (upd H1 p o) := fun x u e m => by
  have h := a x u e m
  rw [upd_ne (ne_of_none h n)]; exact h
theorem kp_same {D : Addr} {H H1 H2 : Hp} (a : Keep D H H1) (s : Same H1 H2) : Keep D H H2 := fun x o e n => s x o (a x o e n)
theorem kp_from {D : Addr} {G H H1 : Hp} (s : Same G H) (n : G D = none) (k : Keep D H H1) : Same G H1 := fun x o e => k x o (s x o e) fun z => by rw [z, n] at e; cases e
theorem DAt.ne {H : Hp} {D x : Addr} {o : HO} (h : DAt H D) (e : H x = some o) (n : ∀ s c : Int, ∀ r : List Int, o ≠ .lst ((s :: c :: r).map V.int)) : x ≠ D := fun z => by
  obtain ⟨s, c, r, _, g⟩ := h
  subst z
  rw [g] at e
  exact n s c r (Option.some.inj e).symm
theorem DAt.same {H H' : Hp} {D : Addr} (h : DAt H D) (s : Same H H') : DAt H' D := by
  obtain ⟨x, c, r, b, g⟩ := h
  exact ⟨x, c, r, b, s _ _ g⟩
theorem DAt_up {H : Hp} {D : Addr} {s c : Int} {r : List Int} (b : r.length ≤ 63) : DAt (upd H D (.lst ((s :: c :: r).map V.int))) D := ⟨s, c, r, b, upd_same⟩
theorem sqL_mono {K : PySem.W.Frag} {H H' : Hp} {l : Addr} {xs : List V} (h : SqL K H l xs) (s : Same H H') : SqL K H' l xs := by
  rcases h with h | h
  · rcases h with h | ⟨o, h⟩
    · exact .inl (.inl (s _ _ h))
    · exact .inl (.inr ⟨o, s _ _ h⟩)
  · exact .inr h
theorem modc (n m : Int) (h : 0 < m) : 0 ≤ n % m ∧ n % m < m := ⟨Int.emod_nonneg _ (by omega), Int.emod_lt_of_pos _ h⟩
theorem mod_nat {n m : Int} (h : 0 < m) : ∃ r : Nat, n % m = (r : Int) ∧ (r : Int) < m := ⟨(n % m).toNat, by have := modc n m h; omega, by have := modc n m h; omega⟩
theorem r_lc {wi : TI} {g : TG} {tt : TT} {te : TE} {vs : List Nat} {σ : St} {H : Hp} {Q : VK} (h : wi σ H fun J H1 => ∀ D, H1 D = none → ∃ W : Nat → Nat → Hp → Prop, (∃ m, W 0 m (upd H1 D (.lst []))) ∧ ∀ i m H, W i m H →
  (J.stop i H ∧ Q (.ref D) H) ∨ (J.go i H ∧ ∃ Nx : Hp → Prop, (∀ H', Nx H' → ∃ m', m' < m ∧ W (i + 1) m' H') ∧ ∀ x H', J.yld i H x H' → g x (wipe σ vs) H' fun σ2 H2 => wipe σ2 vs = wipe σ vs ∧ tt σ2 H2 fun b H3 =>
    if b = true then te σ2 H3 fun y H4 => ∃ acc, H4 D = some (.lst acc) ∧ acc.length < sizeLine ∧ Nx (upd H4 D (.lst (acc ++ [y]))) else Nx H3)) : tLc wi g tt te vs σ H Q := h
theorem seq_nat {n : Nat} {r : Nat} (h : r < n) : seqIndex? (r : Int) n = some r := by
  unfold seqIndex?
  rw [if_neg (show ¬ ((r : Int) < 0) by omega)]
  rw [if_pos (by simp; omega)]
  rfl
theorem dp_strs {K : PySem.W.Frag} {H : Hp} : ∀ l : List Str, DpAll K H (l.map V.str) (l.map PySem.PyData.str)
  | [] => .nil
  | z :: r => .cons (.str z) (dp_strs r)
theorem sh_can : ∀ l : List Str, (∀ z ∈ l, PyData.strOk z = true) → PyData.canLayAll0 (l.map PyData.str) = true
  | [], _ => rfl
  | x :: r, h => by simp [PyData.canLayAll0, PyData.canLay0, h x (List.mem_cons_self ..), sh_can r fun z hz => h z (List.mem_cons_of_mem _ hz)]
theorem sh_dep : ∀ l : List Str, PyData.depthAll (l.map PyData.str) = 0
  | [] => rfl
  | _ :: r => by simp [PyData.depthAll, PyData.depth, sh_dep r]
theorem sh_strs (l : List Str) (h : ∀ z ∈ l, PyData.strOk z = true) : SeqAt.shaped (.list (l.map PyData.str)) = true := by
  simp [SeqAt.shaped, PyData.canLay0, PyData.depth, sh_can l h, sh_dep]
theorem eqv_nil (l : List Str) : PySem.PyData.eqv (.list (l.map PySem.PyData.str)) (.list []) = l.isEmpty := by
  cases l <;> rfl
theorem eraseIdx_map (l : List Str) (i : Nat) : (l.map V.str).eraseIdx i = (l.eraseIdx i).map V.str := by
  induction l generalizing i with
  | nil => rfl
  | cons x r ih => cases i with
    | zero => rfl
    | succ i => rw [List.map_cons, List.eraseIdx_cons_succ, List.eraseIdx_cons_succ, ih, List.map_cons]
theorem erase_perm : ∀ (l : List Str) (i : Nat) (h : i < l.length), ([l[i]] ++ l.eraseIdx i).Perm l
  | x :: r, 0, _ => .refl _
  | x :: r, i + 1, h => by
    have ih := erase_perm r i (Nat.lt_of_succ_lt_succ h)
    rw [List.eraseIdx_cons_succ, List.getElem_cons_succ]
    exact (List.Perm.swap _ _ _).trans (List.Perm.cons _ ih)
theorem r_gSub {to ti : TE} {t : TSet} {v : V} {σ : St} {H : Hp} {QS : St → Hp → Prop} (h : to σ H fun o H1 => ti σ H1 fun i H2 => t o i v H2 fun H3 => QS σ H3) : gSub to ti t v σ H QS := h
/-- a statement whose two ways meet again -/
theorem r_split {M : Hp → Prop} {t : TS} {D : Ends} {σ : St} {H : Hp} (h1 : ∀ nx : St → Hp → Prop, (∀ H', M H' → nx σ H') → t { D with nx := nx } σ H) (h2 : ∀ H', M H' → D.nx σ H') : t D σ H := h1 D.nx h2
section
variable {P : Program} {w : World} {K : PySem.W.Frag} {mg : Str → Option Value} {base : Heap} {a : Adr}
theorem ok_l_random {f : Addr} {fd : FuncData} (F : Fun K "_law_random" "_law_random" s_l_random f fd) (T : Txt w K mg a)
     :
    FnOk P w K mg base CX0 1 f fd ps_l_random (sp_l_random K a) := by
  refine F.ok sc_l_random (fun vs H Q E h => ?_) (fun cdv A outer s H vs Q E hr h => ?_)
  · obtain ⟨l, ns, salt, rfl, hl, hn, k⟩ := h
    rfl
  obtain ⟨l, ns, salt, rfl, hl, hn, k⟩ := h
  have hu := hu_of hr
  refine ⟨_, 
    (pss_cons (ps_set (i := 2) sc_l_random.nd rfl (.inl rfl) (pv 1)) 
    (pss_cons (ps_for PassesOwn.never rfl (pi_list (pv 0)) (pg_name (i := 3) sc_l_random.nd rfl (.inl rfl)) 
      (pss_one (ps_set (i := 2) sc_l_random.nd rfl (.inl rfl) (pe_op op_mod (pe_op op_add (pe_op op_mul (pv 2) pe_int) (pe_callB call_abs (by rfl) T.n_abs (by decide +kernel) (pa_cons (pv 3) pa_nil))) pe_int)))) 
    (pss_one (ps_ret (pe_op op_cat (pe_lst (pa_cons (pv 2) (pa_cons pe_int pa_nil))) (pe_lc (own := [("_law_cell", 3)]) rfl sc_l_random.nd (pi_list (pv 0)) (blkOk_by (own := [("_law_cell", 3)]) (N := nm_l_random) (sc := defScope s_l_random) (by decide +kernel)) (fun _ _ _ _ _ => pg_name (i := 3) sc_l_random.nd rfl (.inl rfl)) (fun _ _ _ _ _ => pts_one (pt_cmpR op_ge (pv 3) (pe_op op_pow pe_int pe_int) (nomark _))) (fun _ _ _ _ _ => (pv 3)))))))), ?_⟩
  have szl : 10000 ≤ sizeLine := by decide
  repeat walk_at "st"
  refine r_itL hl ?_
  refine for_list (xs := ns.map V.int) (fun i σ H3 => H3 = H ∧ ∃ (n : Int) (x : Option V), σ = [some (.ref l), some (.int salt), some (.int n), x]) ⟨rfl, _, _, rfl⟩ ?_ ?_ ?_
  · rintro i σ H3 _ ⟨rfl, _⟩
    exact hl
  · rintro i x σ H3 hx ⟨rfl, n, x1, rfl⟩
    rw [List.getElem?_map] at hx
    cases hq : ns[i]? with
    | none => rw [hq] at hx; cases hx
    | some q =>
      rw [hq] at hx
      cases hx
      repeat walk_at "st"
      refine r_I (.inr ⟨by decide, by decide⟩) ?_
      repeat walk_at "st"
      refine ⟨_, rfl, ?_⟩
      repeat walk_at "st"
      refine r_I (by decide) ?_
      exact ⟨rfl, _, _, rfl⟩
  rintro σ H3 ⟨rfl, n, x1, rfl⟩
  repeat walk_at "st"
  refine ⟨by show 2 ≤ sizeLine; omega, fun p np => ?_⟩
  have s1 : Same H3 (upd H3 p (.lst [.int n, .int 0])) := Same.new np
  have g1 : (upd H3 p (.lst [.int n, .int 0])) p = some (.lst [.int n, .int 0]) := upd_same
  generalize upd H3 p (.lst [.int n, .int 0]) = H1 at s1 g1 ⊢
  refine r_lc ?_
  repeat walk_at "st"
  refine r_itL (sqL_mono hl s1) ?_
  intro D nD
  refine lc_list (xs := ns.map V.int) (fun i H4 => Same H1 H4 ∧ ∃ acc : List Int, acc.length ≤ i ∧ H4 D = some (.lst (acc.map V.int))) ⟨Same.new nD, [], Nat.le_refl _, upd_same⟩ ?_ ?_ ?_
  · rintro i H4 _ ⟨s4, _⟩
    exact sqL_mono hl (s1.trans s4)
  · rintro i x H4 hx ⟨s4, acc, b4, g4⟩
    rw [List.getElem?_map] at hx
    cases hq : ns[i]? with
    | none => rw [hq] at hx; cases hx
    | some q =>
      rw [hq] at hx
      cases hx
      obtain ⟨hi, _⟩ := List.getElem?_eq_some_iff.mp hq
      refine r_gname ?_
      refine ⟨rfl, ?_⟩
      repeat walk_at "st"
      refine r_I ⟨by decide, by decide, by decide⟩ ?_
      repeat walk_at "st"
      refine ite2 (fun _ => ?_) fun _ => ?_
      · repeat walk_at "st"
        refine ⟨_, g4, by rw [List.length_map]; omega, Same.mut s4 nD, acc ++ [q], by rw [List.length_append]; show _ + 1 ≤ _; omega, ?_⟩
        rw [upd_same, List.map_append]
        rfl
      · exact ⟨s4, acc, by omega, g4⟩
  · rintro H4 ⟨s4, acc, b4, g4⟩
    rw [List.length_map] at b4
    refine ⟨p, D, _, _, rfl, rfl, s4 _ _ g1, g4, by rw [List.length_map]; show 2 + _ ≤ _; omega, fun q nq => ?_⟩
    refine k _ q ((s1.trans s4).trans (Same.new nq)) ⟨n, 0, acc, by omega, upd_same⟩ (none_back (s1.trans s4) nq)
theorem ok_l_below {f : Addr} {fd : FuncData} (F : Fun K "_law_below" "_law_below" s_l_below f fd) (T : Txt w K mg a)
     :
    FnOk P w K mg base CX0 1 f fd ps_l_below (sp_l_below K a) := by
  refine F.ok sc_l_below (fun vs H Q E h => ?_) (fun cdv A outer s H vs Q E hr h => ?_)
  · obtain ⟨D, lim, rfl, hD, l0, l1, k⟩ := h
    rfl
  obtain ⟨D, lim, rfl, hD, l0, l1, k⟩ := h
  have hu := hu_of hr
  refine ⟨_, 
    (pss_cons (ps_if (PW.pt (pw_and (pt_cmpR op_eq (pe_ix ix_list (pv 0) pe_int (fun _ _ => rfl)) pe_int (nomark _)) (pw_and1 (pt_cmpR op_gt (pe_callB call_len_seq (by rfl) T.n_len PySem.boot_len (pa_cons (pv 0) pa_nil)) pe_int (nomark _))))) 
      (pss_one (ps_asg (pe_bm PySem.F.plainAttrs_list PySem.F.slot_list_pop PySem.F.type_list_pop mt_popAt (pv 0) (pa_cons pe_int pa_nil)) (pg_sub (pv 0) pe_int set_list))) pss_nil) 
    (pss_cons (ps_if (pt_cmpR op_gt (pe_ix ix_list (pv 0) pe_int (fun _ _ => rfl)) pe_int (nomark _)) 
      (pss_cons (ps_set (i := 2) sc_l_below.nd rfl (.inl rfl) (pe_op op_mod (pe_ix ix_list (pv 0) pe_int (fun _ _ => rfl)) (pv 1))) 
      (pss_cons (ps_asg (pe_op op_fdiv (pe_ix ix_list (pv 0) pe_int (fun _ _ => rfl)) (pv 1)) (pg_sub (pv 0) pe_int set_list)) 
      (pss_one (ps_ret (pv 2))))) pss_nil) 
    (pss_cons (ps_asg (pe_op op_mod (pe_op op_add (pe_op op_mul (pe_ix ix_list (pv 0) pe_int (fun _ _ => rfl)) pe_int) pe_int) pe_int) (pg_sub (pv 0) pe_int set_list)) 
    (pss_one (ps_ret (pe_op op_mod (pe_op op_fdiv (pe_ix ix_list (pv 0) pe_int (fun _ _ => rfl)) pe_int) (pv 1))))))), ?_⟩
  obtain ⟨s0, c, r, hb, g⟩ := hD
  have szl : 10000 ≤ sizeLine := by decide
  have e1 : atI ((s0 :: c :: r).map V.int) 1 = some (.int c) := atI_nat (j := 1) rfl
  refine r_seq ?_
  refine r_split (M := fun H1 => Keep D H H1 ∧ ∃ (c' : Int) (r' : List Int), r'.length ≤ 63 ∧ H1 D = some (.lst ((s0 :: c' :: r').map V.int))) (fun nx hnx => ?_) ?_
  · refine r_ifS ?_
    refine r_and2 (decide (c = 0)) (decide (0 < r.length)) (fun QB q => ?_) (fun _ QB q => ?_) ?_
    · repeat walk_at "st"
      refine r_ixL (SqL.of g) e1 ?_
      repeat walk_at "st"
      rw [dec_int]
      repeat walk_at "st"
      exact q
    · repeat walk_at "st"
      refine r_lenL (.inl (SqL.of g)) ?_
      repeat walk_at "st"
      rw [List.length_map, show decide (2 < (((s0 :: c :: r).length : Nat) : Int)) = decide (0 < r.length) from by
        by_cases h : 0 < r.length
        · rw [decide_eq_true h, decide_eq_true (by rw [List.length_cons, List.length_cons]; omega)]
        · rw [decide_eq_false h, decide_eq_false (by rw [List.length_cons, List.length_cons]; omega)]]
      exact q
    refine ite_b (p := c = 0 ∧ 0 < r.length) (by rw [Bool.decide_and]) (fun hp => ?_) fun hp => ?_
    · cases r with
      | nil => exact absurd hp.2 (Nat.lt_irrefl 0)
      | cons c' r' =>
        rw [List.length_cons] at hb
        repeat walk_at "st"
        refine r_tyL (SqL.of g) ?_
        repeat walk_at "st"
        refine ⟨D, _, 2, 2, .int c', rfl, rfl, g, by decide, by decide, ?_, rfl, ?_⟩
        · show (if _ then _ else _) = _
          rw [if_pos]
          · rfl
          · rw [List.length_map, List.length_cons, List.length_cons, List.length_cons]
            simp
            omega
        show gSub _ _ rSetL (.int c') _ (upd H D (.lst ((s0 :: c :: r').map V.int))) _
        refine r_gSub ?_
        repeat walk_at "st"
        refine ⟨D, _, 1, 1, rfl, rfl, upd_same, ?_, ?_⟩
        · show (if _ then _ else _) = _
          rw [if_pos (by decide), if_pos (by rw [List.length_map, List.length_cons, List.length_cons]; omega)]
          rfl
        refine hnx _ ⟨fun x o e n => by rw [upd_ne n, upd_ne n]; exact e, c', r', by omega, upd_same⟩
    · repeat walk_at "st"
      exact hnx _ ⟨Keep.refl, c, r, hb, g⟩
  rintro H1 ⟨kp, c', r', hb', g1⟩
  have e1 : atI ((s0 :: c' :: r').map V.int) 1 = some (.int c') := atI_nat (j := 1) rfl
  have e0 : atI ((s0 :: c' :: r').map V.int) 0 = some (.int s0) := atI_nat (j := 0) rfl
  have i1 : ixN ((s0 :: c' :: r').map V.int).length 1 = some 1 := by
    show (if _ then _ else _) = _
    rw [if_pos (by decide), if_pos (by rw [List.length_map, List.length_cons, List.length_cons]; omega)]
    rfl
  have i0 : ixN ((s0 :: c' :: r').map V.int).length 0 = some 0 := by
    show (if _ then _ else _) = _
    rw [if_pos (by decide), if_pos (by rw [List.length_map, List.length_cons, List.length_cons]; omega)]
    rfl
  repeat walk_at "st"
  refine r_ixL (SqL.of g1) e1 ?_
  repeat walk_at "st"
  refine ite2 (fun _ => ?_) fun _ => ?_
  · repeat walk_at "st"
    refine r_ixL (SqL.of g1) e1 ?_
    repeat walk_at "st"
    refine r_I l0 ?_
    repeat walk_at "st"
    refine r_ixL (SqL.of g1) e1 ?_
    repeat walk_at "st"
    refine r_I ⟨l0, by omega⟩ ?_
    repeat walk_at "st"
    refine r_gSub ?_
    repeat walk_at "st"
    refine ⟨D, _, 1, 1, rfl, rfl, g1, i1, ?_⟩
    repeat walk_at "st"
    obtain ⟨n, e, hn⟩ := mod_nat (n := c') l0
    rw [e]
    exact k n _ hn (kp_upd kp) (DAt_up hb')
  · repeat walk_at "st"
    refine r_ixL (SqL.of g1) e0 ?_
    repeat walk_at "st"
    refine r_I (.inr ⟨by decide, by decide⟩) ?_
    repeat walk_at "st"
    refine r_I (by decide) ?_
    repeat walk_at "st"
    refine r_gSub ?_
    repeat walk_at "st"
    refine ⟨D, _, 0, 0, rfl, rfl, g1, i0, ?_⟩
    repeat walk_at "st"
    refine r_ixL (SqL.of upd_same) (atI_nat (j := 0) rfl) ?_
    repeat walk_at "st"
    refine r_I ⟨by decide, by decide⟩ ?_
    repeat walk_at "st"
    refine r_I l0 ?_
    obtain ⟨n, e, hn⟩ := mod_nat (n := ((s0 * 48271 + 11) % 2147483647) / 64) l0
    rw [e]
    exact k n _ hn (kp_upd kp) (DAt_up hb')
theorem ok_l_shuffled {f : Addr} {fd : FuncData} (F : Fun K "_law_shuffled" "_law_shuffled" s_l_shuffled f fd) (T : Txt w K mg a)
    {f_l_below : Addr} {fd_l_below : FuncData} (G_l_below : Cal P w K mg base "_law_below" 1 f_l_below fd_l_below ps_l_below (sp_l_below K a)) :
    FnOk P w K mg base CX0 2 f fd ps_l_shuffled (sp_l_shuffled K a) := by
  refine F.ok sc_l_shuffled (fun vs H Q E h => ?_) (fun cdv A outer s H vs Q E hr h => ?_)
  · obtain ⟨D, l, zs, rfl, hD, hl, hz, hok, k⟩ := h
    rfl
  obtain ⟨D, l, zs, rfl, hD, hl, hz, hok, k⟩ := h
  have hu := hu_of hr
  refine ⟨_, 
    (pss_cons (ps_set (i := 2) sc_l_shuffled.nd rfl (.inl rfl) (pe_callTy call_list_of (by rfl) T.n_list (by decide +kernel) (pa_cons (pv 1) pa_nil))) 
    (pss_cons (ps_set (i := 3) sc_l_shuffled.nd rfl (.inl rfl) (pe_lst pa_nil)) 
    (pss_cons (ps_while PassesOwn.never (pt_cmpR (op_neD hr.units) (pv 2) (pe_lst pa_nil) (nomark _)) 
      (pss_one (ps_expr (pe_bm PySem.F.plainAttrs_list PySem.F.slot_list_append PySem.F.type_list_append mt_append (pv 3) (pa_cons (pe_bm PySem.F.plainAttrs_list PySem.F.slot_list_pop PySem.F.type_list_pop mt_popAt (pv 2) (pa_cons (pe_call G_l_below.ok (hr.mono (by decide)) rfl G_l_below.mg' G_l_below.kp G_l_below.b .nil pass0 (pa_cons (pv 0) (pa_cons (pe_callB call_len_seq (by rfl) T.n_len PySem.boot_len (pa_cons (pv 2) pa_nil)) pa_nil))) pa_nil)) pa_nil))))) 
    (pss_one (ps_ret (pv 3)))))), ?_⟩
  have szl : 10000 ≤ sizeLine := by decide
  have hlD : l ≠ D := hD.ne hl (by
    intro s c r e
    have e2 := HO.lst.inj e
    cases zs with
    | nil => cases e2
    | cons z zr => cases e2)
  repeat walk_at "st"
  refine ⟨l, _, rfl, .inl (SqL.of hl), fun pl npl => ?_⟩
  have s1 : Same H (upd H pl (.lst (zs.map V.str))) := Same.new npl
  have g1 : (upd H pl (.lst (zs.map V.str))) pl = some (.lst (zs.map V.str)) := upd_same
  generalize upd H pl (.lst (zs.map V.str)) = H1 at s1 g1 ⊢
  repeat walk_at "st"
  refine ⟨by show 0 ≤ sizeLine; omega, fun rs nrs => ?_⟩
  have s2 : Same H1 (upd H1 rs (.lst [])) := Same.new nrs
  have g2 : (upd H1 rs (.lst [])) rs = some (.lst (([] : List Str).map V.str)) := upd_same
  generalize upd H1 rs (.lst []) = H2 at s2 g2 ⊢
  have hpr : pl ≠ rs := ne_of_none g1 nrs
  have hpD : pl ≠ D := fun z => by obtain ⟨_, _, _, _, e⟩ := hD; rw [z, e] at npl; cases npl
  have hrD : rs ≠ D := fun z => by obtain ⟨_, _, _, _, e⟩ := hD; rw [z, s1 _ _ e] at nrs; cases nrs
  have s12 := s1.trans s2
  have nG : Less D H pl = none ∧ Less D H rs = none := ⟨by unfold Less; rw [if_neg hpD]; exact npl, by unfold Less; rw [if_neg hrD]; exact none_back s1 nrs⟩
  repeat walk_at "st"
  refine r_while (fun m σ H3 => ∃ zs' acc : List Str, m = zs'.length ∧ (acc ++ zs').Perm zs ∧ Same (Less D H) H3 ∧ DAt H3 D ∧ H3 pl = some (.lst (zs'.map V.str)) ∧ H3 rs = some (.lst (acc.map V.str)) ∧ σ = [some (.ref D), some (.ref l), some (.ref pl), some (.ref rs)])
    (m0 := zs.length) ⟨zs, [], rfl, .refl _, (Less_same).trans s12, hD.same s12, s2 _ _ g1, g2, rfl⟩ ?_
  rintro m σ H3 ⟨zs', acc, rfl, hp, s3, d3, g3, g4, rfl⟩
  have hlen := hp.length_eq
  rw [List.length_append] at hlen
  repeat walk_at "st"
  refine ⟨by show 0 ≤ sizeLine; omega, fun x nx => ?_⟩
  have s4 : Same H3 (upd H3 x (.lst [])) := Same.new nx
  have g5 : (upd H3 x (.lst [])) x = some (.lst []) := upd_same
  generalize upd H3 x (.lst []) = H4 at s4 g5 ⊢
  refine ⟨.list (zs'.map PySem.PyData.str), .list [], .lst (SqL.of (s4 _ _ g3)) (dp_strs _), .lst (SqL.of g5) .nil, ?_, ?_, ?_⟩
  · exact sh_strs _ fun z h => hok z (hp.mem_iff.mp (List.mem_append_right _ h))
  · exact sh_strs [] fun z h => by cases h
  rw [eqv_nil]
  repeat walk_at "st"
  have s34 := s3.trans s4
  have d4 := d3.same s4
  have g34 := s4 _ _ g3
  have g44 := s4 _ _ g4
  refine ite_b (p := zs' ≠ []) (by cases zs' <;> simp) (fun hne => ?_) fun he => ?_
  · refine ⟨_, fun σ' H' h => h, ?_⟩
    have hpos : 0 < zs'.length := List.length_pos_iff.mpr hne
    repeat walk_at "st"
    refine r_tyL (SqL.of g44) ?_
    repeat walk_at "st"
    refine r_tyL (SqL.of g34) ?_
    repeat walk_at "st"
    refine r_lenL (.inl (SqL.of g34)) ?_
    repeat walk_at "st"
    rw [List.length_map]
    refine ⟨D, _, rfl, d4, by omega, by omega, fun r H5 hr kp d5 => ?_⟩
    have hr' : r < zs'.length := by omega
    have g35 := kp _ _ g34 hpD
    have g45 := kp _ _ g44 hrD
    repeat walk_at "st"
    refine ⟨pl, _, r, r, .str zs'[r], rfl, rfl, g35, by omega, by omega, by rw [List.length_map]; exact seq_nat hr', by rw [List.getElem?_map, List.getElem?_eq_getElem hr']; rfl, ?_⟩
    repeat walk_at "st"
    refine r_app (xs := acc.map V.str) (upd_kept g45 hpr.symm) (by rw [List.length_map]; omega) ?_
    refine ⟨(zs'.eraseIdx r).length, by rw [List.length_eraseIdx, if_pos hr']; omega, zs'.eraseIdx r, acc ++ [zs'[r]], rfl, ?_, ?_, ?_, ?_, ?_, rfl⟩
    · refine List.Perm.trans ?_ hp
      rw [List.append_assoc]
      exact List.Perm.append_left _ (erase_perm zs' r hr')
    · exact Same.mut (Same.mut (kp_from s34 Less_none kp) nG.1) nG.2
    · obtain ⟨x1, x2, x3, b5, e5⟩ := d5
      exact ⟨x1, x2, x3, b5, upd_kept (upd_kept e5 hpD.symm) hrD.symm⟩
    · rw [upd_ne hpr, upd_same, eraseIdx_map]
    · rw [upd_same, List.map_append]
      rfl
  · have hz0 : zs' = [] := Decidable.not_not.mp he
    subst hz0
    rw [List.append_nil] at hp
    repeat walk_at "st"
    refine k _ rs acc hp ?_ d4 (none_back s1 nrs) g44
    exact fun b o e n => s34 _ _ (Less_at e n)
end
end Sw

/-! A drawn plan. -/
namespace Sw
open PySem L2
def sp_l_plan (K : PySem.W.Frag) (a : Adr) : Sp := fun vs H Q _ => ∃ (D : Addr) (most : Nat), vs = [.ref D, .int (most : Int)] ∧ DAt H D ∧ 1 ≤ most ∧ most ≤ 16 ∧
  ∀ (H' : Hp) (A : LA) (p : LP), GoodLP most p → LPAt H' A p → Keep D H H' → DAt H' D → Q (.ref A.q) H'
section
variable {P : Program} {w : World} {K : PySem.W.Frag} {mg : Str → Option Value} {base : Heap} {a : Adr}
theorem tup_ne {H : Hp} {D x : Addr} {xs : List V} (d : DAt H D) (e : H x = some (.tup xs)) : x ≠ D := d.ne e (by intro _ _ _ z; cases z)
theorem ru_none {H : Hp} {kvs : List (List Key × V)} {l : List ((Nat × Nat) × Nat × Nat × Nat)} {i j : Nat} (hp : Paired (RuL H) kvs l) (h : ∀ x ∈ l, x.1.1 < i ∨ (x.1.1 = i ∧ x.1.2 < j)) : valV kvs [Sum.inl (i : Int), Sum.inl (j : Int)] = none := by
  induction hp with
  | nil => rfl
  | @cons kv r kvs l h1 h2 ih =>
    rw [valV_neg (fun e => ?_)]
    · exact ih fun x hx => h x (List.mem_cons_of_mem _ hx)
    · have e2 := h1.1.symm.trans e
      have hb := h r (List.mem_cons_self ..)
      obtain ⟨⟨x, y⟩, z⟩ := r
      simp only [List.cons.injEq, Sum.inl.injEq, Int.natCast_inj, and_true] at e2
      dsimp only at hb
      omega
theorem ok_l_plan {f : Addr} {fd : FuncData} (F : Fun K "_law_plan" "_law_plan" s_l_plan f fd) (T : Txt w K mg a)
    {f_l_shuffled : Addr} {fd_l_shuffled : FuncData} (G_l_shuffled : Cal P w K mg base "_law_shuffled" 2 f_l_shuffled fd_l_shuffled ps_l_shuffled (sp_l_shuffled K a))
    {f_l_below : Addr} {fd_l_below : FuncData} (G_l_below : Cal P w K mg base "_law_below" 1 f_l_below fd_l_below ps_l_below (sp_l_below K a)) :
    FnOk P w K mg base CX0 3 f fd ps_l_plan (sp_l_plan K a) := by
  refine F.ok sc_l_plan (fun vs H Q E h => ?_) (fun cdv A outer s H vs Q E hr h => ?_)
  · obtain ⟨D, most, rfl, d0, hm1, hm2, k⟩ := h
    rfl
  obtain ⟨D, most, rfl, d0, hm1, hm2, k⟩ := h
  have hu := hu_of hr
  refine ⟨_, 
    (pss_cons (ps_set (i := 2) sc_l_plan.nd rfl (.inl rfl) (pe_callTy call_tuple_of (by rfl) T.n_tuple (by decide +kernel) (pa_cons (pe_slice sl_list (pe_call G_l_shuffled.ok (hr.mono (by decide)) rfl G_l_shuffled.mg' G_l_shuffled.kp G_l_shuffled.b .nil pass0 (pa_cons (pv 0) (pa_cons (pe_lst (pa_cons pe_str (pa_cons pe_str (pa_cons pe_str (pa_cons pe_str (pa_cons pe_str pa_nil)))))) pa_nil))) po_none (po_some (pe_op op_add pe_int (pe_call G_l_below.ok (hr.mono (by decide)) rfl G_l_below.mg' G_l_below.kp G_l_below.b .nil pass0 (pa_cons (pv 0) (pa_cons pe_int pa_nil)))))) pa_nil))) 
    (pss_cons (ps_set (i := 3) sc_l_plan.nd rfl (.inl rfl) (pe_callTy call_tuple_of (by rfl) T.n_tuple (by decide +kernel) (pa_cons (pe_slice sl_list (pe_call G_l_shuffled.ok (hr.mono (by decide)) rfl G_l_shuffled.mg' G_l_shuffled.kp G_l_shuffled.b .nil pass0 (pa_cons (pv 0) (pa_cons (pe_lst (pa_cons pe_str (pa_cons pe_str (pa_cons pe_str (pa_cons pe_str (pa_cons pe_str (pa_cons pe_str (pa_cons pe_str pa_nil)))))))) pa_nil))) po_none (po_some (pe_op op_add pe_int (pe_call G_l_below.ok (hr.mono (by decide)) rfl G_l_below.mg' G_l_below.kp G_l_below.b .nil pass0 (pa_cons (pv 0) (pa_cons pe_int pa_nil)))))) pa_nil))) 
    (pss_cons (ps_asg (pe_tup (pa_cons (pe_op op_add pe_int (pe_call G_l_below.ok (hr.mono (by decide)) rfl G_l_below.mg' G_l_below.kp G_l_below.b .nil pass0 (pa_cons (pv 0) (pa_cons (pv 1) pa_nil)))) (pa_cons (pe_lst pa_nil) (pa_cons (pe_lst pa_nil) (pa_cons pe_dnewT pa_nil))))) (pg_tup rfl (pgs_cons (pg_name (i := 4) sc_l_plan.nd rfl (.inl rfl)) (pgs_cons (pg_name (i := 5) sc_l_plan.nd rfl (.inl rfl)) (pgs_cons (pg_name (i := 6) sc_l_plan.nd rfl (.inl rfl)) (pgs_cons (pg_name (i := 7) sc_l_plan.nd rfl (.inl rfl)) pgs_nil)))))) 
    (pss_cons (ps_for PassesOwn.never rfl (pi_range1 (by rfl) T.n_range (pa_cons (pv 4) pa_nil)) (pg_name (i := 8) sc_l_plan.nd rfl (.inl rfl)) 
      (pss_one (ps_expr (pe_bm PySem.F.plainAttrs_list PySem.F.slot_list_append PySem.F.type_list_append mt_append (pv 5) (pa_cons (pe_ifExp (pt_cmpR op_eq (pe_call G_l_below.ok (hr.mono (by decide)) rfl G_l_below.mg' G_l_below.kp G_l_below.b .nil pass0 (pa_cons (pv 0) (pa_cons pe_int pa_nil))) pe_int (nomark _)) (pe_call G_l_below.ok (hr.mono (by decide)) rfl G_l_below.mg' G_l_below.kp G_l_below.b .nil pass0 (pa_cons (pv 0) (pa_cons (pe_callB call_len_seq (by rfl) T.n_len PySem.boot_len (pa_cons (pv 2) pa_nil)) pa_nil))) pe_int) pa_nil))))) 
    (pss_cons (ps_for PassesOwn.never rfl (pi_range1 (by rfl) T.n_range (pa_cons (pe_ix ix_list (pe_lst (pa_cons pe_int (pa_cons pe_int (pa_cons pe_int (pa_cons pe_int pa_nil))))) (pe_call G_l_below.ok (hr.mono (by decide)) rfl G_l_below.mg' G_l_below.kp G_l_below.b .nil pass0 (pa_cons (pv 0) (pa_cons pe_int pa_nil))) (fun _ _ => rfl)) pa_nil)) (pg_name (i := 8) sc_l_plan.nd rfl (.inl rfl)) 
      (pss_one (ps_expr (pe_bm PySem.F.plainAttrs_list PySem.F.slot_list_append PySem.F.type_list_append mt_append (pv 6) (pa_cons (pe_tup (pa_cons (pe_call G_l_below.ok (hr.mono (by decide)) rfl G_l_below.mg' G_l_below.kp G_l_below.b .nil pass0 (pa_cons (pv 0) (pa_cons (pv 4) pa_nil))) (pa_cons (pe_cmpR op_eq (pe_call G_l_below.ok (hr.mono (by decide)) rfl G_l_below.mg' G_l_below.kp G_l_below.b .nil pass0 (pa_cons (pv 0) (pa_cons pe_int pa_nil))) pe_int (nomark _)) pa_nil))) pa_nil))))) 
    (pss_cons (ps_for PassesOwn.never rfl (pi_range1 (by rfl) T.n_range (pa_cons (pe_callB call_len_seq (by rfl) T.n_len PySem.boot_len (pa_cons (pv 3) pa_nil)) pa_nil)) (pg_name (i := 9) sc_l_plan.nd rfl (.inl rfl)) 
      (pss_one (ps_for PassesOwn.never rfl (pi_range1 (by rfl) T.n_range (pa_cons (pe_callB call_len_seq (by rfl) T.n_len PySem.boot_len (pa_cons (pv 2) pa_nil)) pa_nil)) (pg_name (i := 10) sc_l_plan.nd rfl (.inl rfl)) 
        (pss_one (ps_if (pt_cmpR op_gt (pe_call G_l_below.ok (hr.mono (by decide)) rfl G_l_below.mg' G_l_below.kp G_l_below.b .nil pass0 (pa_cons (pv 0) (pa_cons pe_int pa_nil))) pe_int (nomark _)) 
          (pss_cons (ps_set (i := 11) sc_l_plan.nd rfl (.inl rfl) (pe_ix ix_list (pe_lst (pa_cons pe_str (pa_cons pe_str (pa_cons pe_str (pa_cons pe_str (pa_cons pe_str pa_nil)))))) (pe_call G_l_below.ok (hr.mono (by decide)) rfl G_l_below.mg' G_l_below.kp G_l_below.b .nil pass0 (pa_cons (pv 0) (pa_cons pe_int pa_nil))) (fun _ _ => rfl))) 
          (pss_one (ps_dput hu (pv 7) (pe_tup (pa_cons (pv 9) (pa_cons (pv 10) pa_nil))) (pe_tup (pa_cons (pe_call G_l_below.ok (hr.mono (by decide)) rfl G_l_below.mg' G_l_below.kp G_l_below.b .nil pass0 (pa_cons (pv 0) (pa_cons (pe_callB call_len_seq (by rfl) T.n_len PySem.boot_len (pa_cons (pv 2) pa_nil)) pa_nil))) (pa_cons (pv 11) (pa_cons (pe_call G_l_below.ok (hr.mono (by decide)) rfl G_l_below.mg' G_l_below.kp G_l_below.b .nil pass0 (pa_cons (pv 0) (pa_cons (pe_callB call_len_seq (by rfl) T.n_len PySem.boot_len (pa_cons (pv 3) pa_nil)) pa_nil))) pa_nil)))) rfl))) pss_nil))))) 
    (pss_one (ps_ret (pe_tup (pa_cons (pv 2) (pa_cons (pv 3) (pa_cons (pe_callTy call_tuple_of (by rfl) T.n_tuple (by decide +kernel) (pa_cons (pv 5) pa_nil)) (pa_cons (pe_callTy call_tuple_of (by rfl) T.n_tuple (by decide +kernel) (pa_cons (pv 6) pa_nil)) (pa_cons (pv 7) pa_nil)))))))))))))), ?_⟩
  have szl : 10000 ≤ sizeLine := by decide
  repeat walk_at "st"
  refine ⟨by show 5 ≤ sizeLine; omega, fun x1 n1 => ?_⟩
  have s1 : Same H (upd H x1 (.lst (SG5.map V.str))) := Same.new n1
  have e1 : (upd H x1 (.lst (SG5.map V.str))) x1 = some (.lst (SG5.map V.str)) := upd_same
  show tNil _ (upd H x1 (.lst (SG5.map V.str))) _
  generalize upd H x1 (.lst (SG5.map V.str)) = H1 at s1 e1 ⊢
  repeat walk_at "st"
  refine ⟨D, x1, SG5, rfl, d0.same s1, e1, by decide, ok5, fun H2 q1 ys1 p1 kp2 d2 nq1 e2 => ?_⟩
  have sA : Same (Less D H) H2 := kp_from (Less_same.trans s1) Less_none kp2
  have nqD : q1 ≠ D := fun z => by obtain ⟨_, _, _, _, e⟩ := d0; rw [z, s1 _ _ e] at nq1; cases nq1
  repeat walk_at "st"
  refine ⟨D, _, rfl, d2, by decide, by decide, fun r3 H3 hr3 kp3 d3 => ?_⟩
  have e3 := kp3 _ _ e2 nqD
  have sB := kp_from sA Less_none kp3
  repeat walk_at "st"
  refine r_slL (SqL.of e3) fun q2 n2 => ?_
  rw [show ((1 : Int) + (r3 : Int)) = ((1 + r3 : Nat) : Int) by omega, cutV_to, ← List.map_take]
  have T1 := take_perm p1 nd5 (n := 1 + r3) (by omega) (by show 1 + r3 ≤ 5; omega)
  obtain ⟨sg, hsg⟩ : ∃ l, l = ys1.take (1 + r3) := ⟨_, rfl⟩
  rw [← hsg] at T1 ⊢
  repeat walk_at "st"
  refine ⟨q2, _, rfl, .inl ⟨SqL.of upd_same, fun a1 na1 => ?_⟩⟩
  have sC : Same (Less D H) (upd (upd H3 q2 (.lst (sg.map V.str))) a1 (.tup (sg.map V.str))) := (sB.trans (Same.new n2)).trans (Same.new na1)
  have dC : DAt (upd (upd H3 q2 (.lst (sg.map V.str))) a1 (.tup (sg.map V.str))) D := (d3.same (Same.new n2)).same (Same.new na1)
  have eC : (upd (upd H3 q2 (.lst (sg.map V.str))) a1 (.tup (sg.map V.str))) a1 = some (.tup (sg.map V.str)) := upd_same
  generalize upd (upd H3 q2 (.lst (sg.map V.str))) a1 (.tup (sg.map V.str)) = H4 at sC dC eC ⊢
  repeat walk_at "st"
  refine ⟨by show 7 ≤ sizeLine; omega, fun x2 n4 => ?_⟩
  have s4 : Same H4 (upd H4 x2 (.lst (MD7.map V.str))) := Same.new n4
  have e4 : (upd H4 x2 (.lst (MD7.map V.str))) x2 = some (.lst (MD7.map V.str)) := upd_same
  show tNil _ (upd H4 x2 (.lst (MD7.map V.str))) _
  generalize upd H4 x2 (.lst (MD7.map V.str)) = H5 at s4 e4 ⊢
  repeat walk_at "st"
  refine ⟨D, x2, MD7, rfl, dC.same s4, e4, by decide, ok7, fun H6 q3 ys2 p2 kp6 d6 nq3 e6 => ?_⟩
  have sD := kp_from (sC.trans s4) Less_none kp6
  have eD := kp6 _ _ (s4 _ _ eC) (tup_ne dC eC)
  have nq3D : q3 ≠ D := fun z => by obtain ⟨_, _, _, _, e⟩ := dC; rw [z, s4 _ _ e] at nq3; cases nq3
  repeat walk_at "st"
  refine ⟨D, _, rfl, d6, by decide, by decide, fun r7 H7 hr7 kp7 d7 => ?_⟩
  have e7 := kp7 _ _ e6 nq3D
  have sE := kp_from sD Less_none kp7
  have eE := kp7 _ _ eD (tup_ne d6 eD)
  repeat walk_at "st"
  refine r_slL (SqL.of e7) fun q4 n7 => ?_
  rw [show ((1 : Int) + (r7 : Int)) = ((1 + r7 : Nat) : Int) by omega, cutV_to, ← List.map_take]
  have T2 := take_perm p2 nd7 (n := 1 + r7) (by omega) (by show 1 + r7 ≤ 7; omega)
  obtain ⟨md, hmd⟩ : ∃ l, l = ys2.take (1 + r7) := ⟨_, rfl⟩
  rw [← hmd] at T2 ⊢
  repeat walk_at "st"
  refine ⟨q4, _, rfl, .inl ⟨SqL.of upd_same, fun a2 na2 => ?_⟩⟩
  have sF : Same (Less D H) (upd (upd H7 q4 (.lst (md.map V.str))) a2 (.tup (md.map V.str))) := (sE.trans (Same.new n7)).trans (Same.new na2)
  have dF : DAt (upd (upd H7 q4 (.lst (md.map V.str))) a2 (.tup (md.map V.str))) D := (d7.same (Same.new n7)).same (Same.new na2)
  have eF : (upd (upd H7 q4 (.lst (md.map V.str))) a2 (.tup (md.map V.str))) a2 = some (.tup (md.map V.str)) := upd_same
  have eF1 : (upd (upd H7 q4 (.lst (md.map V.str))) a2 (.tup (md.map V.str))) a1 = some (.tup (sg.map V.str)) := Same.new na2 _ _ (Same.new n7 _ _ eE)
  generalize upd (upd H7 q4 (.lst (md.map V.str))) a2 (.tup (md.map V.str)) = H8 at sF dF eF eF1 ⊢
  clear sA sB sC dC eC s4 e4 eD eE sD sE e7 e3 e2 e6 n1 n2 n4 n7 nq1 nq3 nqD nq3D
  repeat walk_at "st"
  refine ⟨D, _, rfl, dF, by omega, by omega, fun r9 H9 hr9 kp9 d9 => ?_⟩
  have sG := kp_from sF Less_none kp9
  have g1 := kp9 _ _ eF1 (tup_ne dF eF1)
  have g2 := kp9 _ _ eF (tup_ne dF eF)
  repeat walk_at "st"
  refine ⟨by show 0 ≤ sizeLine; omega, fun fl nfl => ?_⟩
  repeat walk_at "st"
  refine ⟨by show 0 ≤ sizeLine; omega, fun rb nrb => ?_⟩
  repeat walk_at "st"
  intro ru nru
  repeat walk_at "st"
  refine ⟨by show 4 ≤ sizeLine; omega, fun t4 nt4 => ?_⟩
  refine r_gTup (xs := [.int (1 + (r9 : Int)), .ref fl, .ref rb, .ref ru]) (SqT.of upd_same) rfl ?_
  have F : ∃ G, Same (Less D H) G ∧ G D = none ∧ G a1 = some (.tup (sg.map V.str)) ∧ G a2 = some (.tup (md.map V.str)) ∧ G fl = none ∧ G rb = none ∧ G ru = none ∧ Same G (upd (upd (upd (upd H9 fl (.lst [])) rb (.lst [])) ru (.dT [])) t4 (.tup [.int (1 + (r9 : Int)), .ref fl, .ref rb, .ref ru])) := by
    have nrb' := none_back (Same.new (o := .lst []) nfl) nrb
    have nru' := none_back (Same.new (o := .lst []) nfl) (none_back (Same.new (o := .lst []) nrb) nru)
    refine ⟨Less D H9, Less_from sG Less_none, Less_none, Less_at g1 (tup_ne d9 g1), Less_at g2 (tup_ne d9 g2), ?_, ?_, ?_, ?_⟩
    · unfold Less; split <;> trivial
    · unfold Less; split <;> trivial
    · unfold Less; split <;> trivial
    · exact (((Less_same.trans (Same.new nfl)).trans (Same.new nrb)).trans (Same.new nru)).trans (Same.new nt4)
  obtain ⟨G, sGH, nGD, ga1, ga2, nGfl, nGrb, nGru, sX⟩ := F
  have dX : DAt (upd (upd (upd (upd H9 fl (.lst [])) rb (.lst [])) ru (.dT [])) t4 (.tup [.int (1 + (r9 : Int)), .ref fl, .ref rb, .ref ru])) D := (((d9.same (Same.new nfl)).same (Same.new nrb)).same (Same.new nru)).same (Same.new nt4)
  have nfr : fl ≠ rb := ne_of_none upd_same nrb
  have nfu : fl ≠ ru := ne_of_none (upd_kept upd_same nfr) nru
  have nru2 : rb ≠ ru := ne_of_none upd_same nru
  have nft : fl ≠ t4 := ne_of_none (upd_kept (upd_kept upd_same nfr) nfu) nt4
  have nrt : rb ≠ t4 := ne_of_none (upd_kept upd_same nru2) nt4
  have nut : ru ≠ t4 := ne_of_none upd_same nt4
  have nfD : fl ≠ D := fun z => by obtain ⟨_, _, _, _, e⟩ := d9; rw [z, e] at nfl; cases nfl
  have nrD : rb ≠ D := fun z => by obtain ⟨_, _, _, _, e⟩ := d9; rw [z, Same.new nfl _ _ e] at nrb; cases nrb
  have nuD : ru ≠ D := fun z => by obtain ⟨_, _, _, _, e⟩ := d9; rw [z, Same.new nrb _ _ (Same.new nfl _ _ e)] at nru; cases nru
  have hf0 : (upd (upd (upd (upd H9 fl (.lst [])) rb (.lst [])) ru (.dT [])) t4 (.tup [.int (1 + (r9 : Int)), .ref fl, .ref rb, .ref ru])) fl = some (.lst (([] : List Nat).map fun (i : Nat) => V.int (i : Int))) := upd_kept (upd_kept (upd_kept upd_same nfr) nfu) nft
  have hr0 : (upd (upd (upd (upd H9 fl (.lst [])) rb (.lst [])) ru (.dT [])) t4 (.tup [.int (1 + (r9 : Int)), .ref fl, .ref rb, .ref ru])) rb = some (.lst (([] : List Addr).map V.ref)) := upd_kept (upd_kept upd_same nru2) nrt
  have hu0 : (upd (upd (upd (upd H9 fl (.lst [])) rb (.lst [])) ru (.dT [])) t4 (.tup [.int (1 + (r9 : Int)), .ref fl, .ref rb, .ref ru])) ru = some (.dT []) := upd_kept upd_same nut
  generalize upd (upd (upd (upd H9 fl (.lst [])) rb (.lst [])) ru (.dT [])) t4 (.tup [.int (1 + (r9 : Int)), .ref fl, .ref rb, .ref ru]) = HX at sX dX hf0 hr0 hu0 ⊢
  clear nfl nrb nru nt4 sG g1 g2 d9 kp9
  obtain ⟨nt, hnt⟩ : ∃ n : Nat, n = 1 + r9 := ⟨_, rfl⟩
  rw [show (1 : Int) + (r9 : Int) = (nt : Int) by omega]
  repeat walk_at "st"
  refine ⟨_, rfl, by omega, by omega, ?_⟩
  refine for_range (fun i σ HY => ∃ (fls : List Nat), fls.length = i ∧ (∀ x ∈ fls, x < sg.length) ∧ Same G HY ∧ DAt HY D ∧ HY fl = some (.lst (fls.map fun (i : Nat) => V.int (i : Int))) ∧ HY rb = some (.lst (([] : List Addr).map V.ref)) ∧ HY ru = some (.dT []) ∧
      ∃ y8 y9 y10 y11, σ = [some (.ref D), some (.int (most : Int)), some (.ref a1), some (.ref a2), some (.int (nt : Int)), some (.ref fl), some (.ref rb), some (.ref ru), y8, y9, y10, y11])
    ⟨[], rfl, (fun _ h => by cases h), sX, dX, hf0, hr0, hu0, _, _, _, _, rfl⟩ ?_ ?_
  · rintro i σ HY hi ⟨fls, hl, hb, sY, dY, hf, hr, hu, y8, y9, y10, y11, rfl⟩
    rw [Int.toNat_natCast] at hi
    repeat walk_at "st"
    refine r_tyL (SqL.of hf) ?_
    repeat walk_at "st"
    have fin : ∀ (v : Nat) (HZ : Hp), v < sg.length → Keep D HY HZ → DAt HZ D → rAppend (.ref fl) [.int (v : Int)] HZ fun _ HW => ∃ (fls : List Nat), fls.length = i + 1 ∧ (∀ x ∈ fls, x < sg.length) ∧ Same G HW ∧ DAt HW D ∧ HW fl = some (.lst (fls.map fun (i : Nat) => V.int (i : Int))) ∧ HW rb = some (.lst (([] : List Addr).map V.ref)) ∧ HW ru = some (.dT []) ∧
      ∃ z8 z9 z10 z11, ([some (.ref D), some (.int (most : Int)), some (.ref a1), some (.ref a2), some (.int (nt : Int)), some (.ref fl), some (.ref rb), some (.ref ru), some (.int (0 + (i : Int))), y9, y10, y11] : St) = [some (.ref D), some (.int (most : Int)), some (.ref a1), some (.ref a2), some (.int (nt : Int)), some (.ref fl), some (.ref rb), some (.ref ru), z8, z9, z10, z11] := by
      intro v HZ hv kp dZ
      refine r_app (kp _ _ hf nfD) (by rw [List.length_map]; omega) ?_
      refine ⟨fls ++ [v], by rw [List.length_append, hl]; rfl, ?_, Same.mut (kp_from sY nGD kp) nGfl, ?_, ?_, ?_, ?_, _, _, _, _, rfl⟩
      · intro x hx
        rcases List.mem_append.mp hx with hx | hx
        · exact hb x hx
        · rw [List.mem_singleton.mp hx]; exact hv
      · obtain ⟨u1, u2, u3, u4, u5⟩ := dZ
        exact ⟨u1, u2, u3, u4, upd_kept u5 nfD.symm⟩
      · rw [upd_same, List.map_append]; rfl
      · rw [upd_ne nfr.symm]; exact kp _ _ hr nrD
      · rw [upd_ne nfu.symm]; exact kp _ _ hu nuD
    refine ⟨D, _, rfl, dY, by decide, by decide, fun r10 HZ hr10 kp10 d10 => ?_⟩
    repeat walk_at "st"
    rw [dec_int]
    refine ite_b rfl (fun _ => ?_) fun _ => ?_
    · repeat walk_at "st"
      refine r_lenL (.inr (SqT.of (kp10 _ _ (sY _ _ ga1) (tup_ne dY (sY _ _ ga1))))) ?_
      repeat walk_at "st"
      rw [List.length_map]
      refine ⟨D, _, rfl, d10, by omega, by omega, fun r11 HW hr11 kp11 d11 => ?_⟩
      repeat walk_at "st"
      exact fin r11 HW (by omega) (Keep.trans kp10 kp11) d11
    · repeat walk_at "st"
      exact fin 0 HZ (by omega) kp10 d10
  rintro σ HY ⟨fls, hl, hb, sY, dY, hf, hr, hu, y8, y9, y10, y11, rfl⟩
  rw [Int.toNat_natCast] at hl
  obtain ⟨G2, sG2, nG2D, nG2rb, nG2ru, gf, sY2⟩ : ∃ G2, Same G G2 ∧ G2 D = none ∧ G2 rb = none ∧ G2 ru = none ∧ G2 fl = some (.lst (fls.map fun (i : Nat) => V.int (i : Int))) ∧ Same G2 HY := by
    refine ⟨Less ru (Less rb (Less D HY)), Less_from (Less_from (Less_from sY nGD) nGrb) nGru, ?_, ?_, Less_none, Less_at (Less_at (Less_at hf nfD) nfr) nfu, (Less_same.trans Less_same).trans Less_same⟩
    · unfold Less; split <;> first | rfl | (split <;> first | rfl | (rw [if_pos rfl]))
    · unfold Less; split <;> first | rfl | rw [if_pos rfl]
  clear sX dX hf0 hr0 hu0
  repeat walk_at "st"
  refine ⟨by show 4 ≤ sizeLine; omega, fun x5 n5 => ?_⟩
  have s5 : Same HY (upd HY x5 (.lst [.int 1, .int 1, .int 2, .int 3])) := Same.new n5
  have e5 : (upd HY x5 (.lst [.int 1, .int 1, .int 2, .int 3])) x5 = some (.lst [.int 1, .int 1, .int 2, .int 3]) := upd_same
  generalize upd HY x5 (.lst [.int 1, .int 1, .int 2, .int 3]) = H10 at s5 e5 ⊢
  repeat walk_at "st"
  refine ⟨D, _, rfl, dY.same s5, by decide, by decide, fun r12 H11 hr12 kp12 d12 => ?_⟩
  have ne5 : x5 ≠ D := fun z => by obtain ⟨_, _, _, _, e⟩ := dY; rw [z, e] at n5; cases n5
  have e5' := kp12 _ _ e5 ne5
  obtain ⟨nc, hc1, hc2, hc3⟩ := rb4 r12 (by omega)
  refine r_ixL (SqL.of e5') (nat_at hc3) ?_
  repeat walk_at "st"
  have s11 := kp_from (sY2.trans s5) nG2D kp12
  have hr11 := kp12 _ _ (s5 _ _ hr) nrD
  have hu11 := kp12 _ _ (s5 _ _ hu) nuD
  refine ⟨_, rfl, by omega, by omega, ?_⟩
  refine for_range (fun i σ HZ => ∃ (qs : List Addr) (rbs : List (Nat × Bool)), rbs.length = i ∧ (∀ x ∈ rbs, x.1 < nt) ∧ Same G2 HZ ∧ DAt HZ D ∧ HZ rb = some (.lst (qs.map V.ref)) ∧ Paired (RbL HZ) qs rbs ∧ HZ ru = some (.dT []) ∧
      ∃ y8 y9 y10 y11, σ = [some (.ref D), some (.int (most : Int)), some (.ref a1), some (.ref a2), some (.int (nt : Int)), some (.ref fl), some (.ref rb), some (.ref ru), y8, y9, y10, y11])
    ⟨[], [], rfl, (fun _ h => by cases h), s11, d12, hr11, .nil, hu11, _, _, _, _, rfl⟩ ?_ ?_
  · rintro i σ HZ hi ⟨qs, rbs, hl3, hb3, s3, d3, g3, p3, u3, y8, y9, y10, y11, rfl⟩
    rw [Int.toNat_natCast] at hi
    repeat walk_at "st"
    refine r_tyL (SqL.of g3) ?_
    repeat walk_at "st"
    refine ⟨D, _, rfl, d3, by omega, by omega, fun r13 HW hr13 kp13 d13 => ?_⟩
    repeat walk_at "st"
    refine ⟨D, _, rfl, d13, by decide, by decide, fun r14 HV hr14 kp14 d14 => ?_⟩
    have kp := Keep.trans kp13 kp14
    repeat walk_at "st"
    refine ⟨by show 2 ≤ sizeLine; omega, fun tq ntq => ?_⟩
    have sT : Same HV (upd HV tq (.tup [.int (r13 : Int), .bl (decide (V.int (r14 : Int) = .int 0))])) := Same.new ntq
    have eT : (upd HV tq (.tup [.int (r13 : Int), .bl (decide (V.int (r14 : Int) = .int 0))])) tq = some (.tup [.int (r13 : Int), .bl (decide (V.int (r14 : Int) = .int 0))]) := upd_same
    generalize upd HV tq (.tup [.int (r13 : Int), .bl (decide (V.int (r14 : Int) = .int 0))]) = HU at sT eT ⊢
    have g3' := sT _ _ (kp _ _ g3 nrD)
    have hql := PySem.Paired.length p3
    repeat walk_at "st"
    refine r_app g3' (by rw [List.length_map]; omega) ?_
    refine ⟨qs ++ [tq], rbs ++ [(r13, decide (V.int (r14 : Int) = .int 0))], by rw [List.length_append, hl3]; rfl, ?_, Same.mut ((kp_from s3 nG2D kp).trans sT) nG2rb, ?_, ?_, ?_, ?_, _, _, _, _, rfl⟩
    · intro x hx
      rcases List.mem_append.mp hx with hx | hx
      · exact hb3 x hx
      · rw [List.mem_singleton.mp hx]; dsimp only; omega
    · obtain ⟨u1, u2, u3, u4, u5⟩ := d14
      exact ⟨u1, u2, u3, u4, upd_kept (sT _ _ u5) nrD.symm⟩
    · rw [upd_same, List.map_append]; rfl
    · refine Paired.snoc (Paired.mapP p3 fun q r e => ?_) ?_
      · exact upd_kept (sT _ _ (kp _ _ e (tup_ne d3 e))) (ne_of e g3 (by intro z; cases z))
      · exact upd_kept eT (ne_of eT g3' (by intro z; cases z))
    · rw [upd_ne nru2.symm]; exact sT _ _ (kp _ _ u3 nuD)
  rintro σ HZ ⟨qs, rbs, hl3, hb3, s3, d3, g3, p3, u3, y8, y9, y10, y11, rfl⟩
  rw [Int.toNat_natCast] at hl3
  have hsl : sg.length ≤ 4 := by omega
  have hml : md.length ≤ 3 := by omega
  obtain ⟨G3, sG3, nG3D, nG3ru, gr3, gp3, sZ3⟩ : ∃ G3, Same G2 G3 ∧ G3 D = none ∧ G3 ru = none ∧ G3 rb = some (.lst (qs.map V.ref)) ∧ Paired (RbL G3) qs rbs ∧ Same G3 HZ := by
    refine ⟨Less ru (Less D HZ), Less_from (Less_from s3 nG2D) nG2ru, ?_, Less_none, Less_at (Less_at g3 nrD) nru2, Paired.mapP p3 fun q r e => Less_at (Less_at e (tup_ne d3 e)) (ne_of e u3 (by intro z; cases z)), Less_same.trans Less_same⟩
    unfold Less; split <;> first | rfl | rw [if_pos rfl]
  have ga1' := sG3 _ _ (sG2 _ _ ga1)
  have ga2' := sG3 _ _ (sG2 _ _ ga2)
  have gf' := sG3 _ _ gf
  repeat walk_at "st"
  refine r_lenL (.inr (SqT.of (sZ3 _ _ ga2'))) ?_
  repeat walk_at "st"
  rw [List.length_map]
  refine ⟨_, rfl, by omega, by omega, ?_⟩
  refine for_range (fun i σ HA => ∃ (kvs : List (List Key × V)) (rus : List ((Nat × Nat) × Nat × Nat × Nat)), rus.length ≤ 4 * i ∧ (∀ x ∈ rus, x.1.1 < i ∧ x.1.2 < sg.length ∧ x.2.1 < sg.length ∧ x.2.2.1 < 3 ∧ x.2.2.2 < md.length) ∧ (rus.map (·.1)).Pairwise ltN ∧
      Same G3 HA ∧ DAt HA D ∧ HA ru = some (.dT kvs) ∧ Paired (RuL HA) kvs rus ∧
      ∃ y8 y9 y10 y11, σ = [some (.ref D), some (.int (most : Int)), some (.ref a1), some (.ref a2), some (.int (nt : Int)), some (.ref fl), some (.ref rb), some (.ref ru), y8, y9, y10, y11])
    ⟨[], [], Nat.zero_le _, (fun _ h => by cases h), .nil, sZ3, d3, u3, .nil, _, _, _, _, rfl⟩ ?_ ?_
  · rintro i σ HA hi ⟨kvs, rus, hl4, hb4, hw4, s4, d4, g4, p4, y8, y9, y10, y11, rfl⟩
    rw [Int.toNat_natCast] at hi
    repeat walk_at "st"
    refine r_lenL (.inr (SqT.of (s4 _ _ ga1'))) ?_
    repeat walk_at "st"
    rw [List.length_map]
    refine ⟨_, rfl, by omega, by omega, ?_⟩
    refine for_range (fun j σ HB => ∃ (kvs : List (List Key × V)) (rus : List ((Nat × Nat) × Nat × Nat × Nat)), rus.length ≤ 4 * i + j ∧ (∀ x ∈ rus, (x.1.1 < i ∨ (x.1.1 = i ∧ x.1.2 < j)) ∧ x.1.2 < sg.length ∧ x.2.1 < sg.length ∧ x.2.2.1 < 3 ∧ x.2.2.2 < md.length) ∧ (rus.map (·.1)).Pairwise ltN ∧
      Same G3 HB ∧ DAt HB D ∧ HB ru = some (.dT kvs) ∧ Paired (RuL HB) kvs rus ∧
      ∃ y8 y10 y11, σ = [some (.ref D), some (.int (most : Int)), some (.ref a1), some (.ref a2), some (.int (nt : Int)), some (.ref fl), some (.ref rb), some (.ref ru), y8, some (.int (0 + (i : Int))), y10, y11])
      ⟨kvs, rus, by omega, (fun x hx => ⟨.inl (hb4 x hx).1, (hb4 x hx).2⟩), hw4, s4, d4, g4, p4, _, _, _, rfl⟩ ?_ ?_
    · rintro j σ HB hj ⟨kvs, rus, hl5, hb5, hw5, s5, d5, g5, p5, y8, y10, y11, rfl⟩
      rw [Int.toNat_natCast] at hj
      repeat walk_at "st"
      refine ⟨D, _, rfl, d5, by decide, by decide, fun r15 HC hr15 kp15 d15 => ?_⟩
      have s15 := kp_from s5 nG3D kp15
      have g15 := kp15 _ _ g5 nuD
      have p15 : Paired (RuL HC) kvs rus := Paired.mapP p5 fun _ _ e => ⟨e.1, let ⟨q, e1, e2⟩ := e.2; ⟨q, e1, kp15 _ _ e2 (tup_ne d5 e2)⟩⟩
      repeat walk_at "st"
      refine ite2 (fun _ => ?_) fun _ => ?_
      · repeat walk_at "st"
        refine ⟨by show 5 ≤ sizeLine; omega, fun x6 n6 => ?_⟩
        have s6 : Same HC (upd HC x6 (.lst (MV5.map V.str))) := Same.new n6
        have e6 : (upd HC x6 (.lst (MV5.map V.str))) x6 = some (.lst (MV5.map V.str)) := upd_same
        show tCall _ _ _ _ _ (upd HC x6 (.lst (MV5.map V.str))) _
        generalize upd HC x6 (.lst (MV5.map V.str)) = HD at s6 e6 ⊢
        have ne6 : x6 ≠ D := fun z => by obtain ⟨_, _, _, _, e⟩ := d15; rw [z, e] at n6; cases n6
        repeat walk_at "st"
        refine ⟨D, _, rfl, d15.same s6, by decide, by decide, fun r16 HE hr16 kp16 d16 => ?_⟩
        obtain ⟨dm, hdm1, hdm2⟩ := mv5 r16 (by omega)
        refine r_ixL (SqL.of (kp16 _ _ e6 ne6)) (nat_at hdm2) ?_
        have s16 := kp_from (s15.trans s6) nG3D kp16
        repeat walk_at "st"
        refine r_lenL (.inr (SqT.of (s16 _ _ ga1'))) ?_
        repeat walk_at "st"
        rw [List.length_map]
        refine ⟨D, _, rfl, d16, by omega, by omega, fun r17 HF hr17 kp17 d17 => ?_⟩
        have s17 := kp_from s16 nG3D kp17
        repeat walk_at "st"
        refine r_lenL (.inr (SqT.of (s17 _ _ ga2'))) ?_
        repeat walk_at "st"
        rw [List.length_map]
        refine ⟨D, _, rfl, d17, by omega, by omega, fun r18 HG hr18 kp18 d18 => ?_⟩
        have s18 := kp_from s17 nG3D kp18
        have kp := Keep.trans (Keep.trans kp16 kp17) kp18
        have g18 := kp _ _ (s6 _ _ g15) nuD
        have p18 : Paired (RuL HG) kvs rus := Paired.mapP p15 fun _ _ e => ⟨e.1, let ⟨q, e1, e2⟩ := e.2; ⟨q, e1, kp _ _ (s6 _ _ e2) (tup_ne d15 e2)⟩⟩
        repeat walk_at "st"
        refine ⟨by show 3 ≤ sizeLine; omega, fun tv ntv => ?_⟩
        have sV : Same HG (upd HG tv (.tup [.int (r17 : Int), .str (MOVESs.getD dm Str.empty), .int (r18 : Int)])) := Same.new ntv
        have eV : (upd HG tv (.tup [.int (r17 : Int), .str (MOVESs.getD dm Str.empty), .int (r18 : Int)])) tv = some (.tup [.int (r17 : Int), .str (MOVESs.getD dm Str.empty), .int (r18 : Int)]) := upd_same
        generalize upd HG tv (.tup [.int (r17 : Int), .str (MOVESs.getD dm Str.empty), .int (r18 : Int)]) = HI at sV eV ⊢
        repeat walk_at "st"
        refine ⟨by show 2 ≤ sizeLine; omega, fun tk ntk => ?_⟩
        rw [show (0 : Int) + (i : Int) = (i : Int) by omega, show (0 : Int) + (j : Int) = (j : Int) by omega]
        have sK : Same HI (upd HI tk (.tup [.int (i : Int), .int (j : Int)])) := Same.new ntk
        have eK : (upd HI tk (.tup [.int (i : Int), .int (j : Int)])) tk = some (.tup ([Sum.inl (i : Int), Sum.inl (j : Int)].map kV)) := upd_same
        generalize upd HI tk (.tup [.int (i : Int), .int (j : Int)]) = HJ at sK eK ⊢
        have sVK := sV.trans sK
        have g19 := sVK _ _ g18
        have p19 : Paired (RuL HJ) kvs rus := Paired.mapP p18 fun _ _ e => ⟨e.1, let ⟨q, e1, e2⟩ := e.2; ⟨q, e1, sVK _ _ e2⟩⟩
        have hkn := PySem.Paired.length p19
        refine r_dPutT g19 eK (by omega) ?_
        rw [putK_snoc _ (ru_none p19 fun x hx => (hb5 x hx).1)]
        refine ⟨kvs ++ [([Sum.inl (i : Int), Sum.inl (j : Int)], .ref tv)], rus ++ [((i, j), r17, dm, r18)], by rw [List.length_append]; show _ + 1 ≤ _; omega, ?_, ?_, Same.mut (s18.trans sVK) nG3ru, ?_, upd_same, ?_, _, _, _, rfl⟩
        · intro x hx
          rcases List.mem_append.mp hx with hx | hx
          · have := hb5 x hx
            exact ⟨by omega, this.2⟩
          · rw [List.mem_singleton.mp hx]
            exact ⟨.inr ⟨rfl, by show j < j + 1; omega⟩, hj, by show r17 < sg.length; omega, hdm1, by show r18 < md.length; omega⟩
        · rw [List.map_append]
          refine List.pairwise_append.mpr ⟨hw5, List.pairwise_singleton _ _, fun x hx y hy => ?_⟩
          obtain ⟨z, hz, rfl⟩ := List.mem_map.mp hx
          rw [List.map_cons, List.map_nil, List.mem_singleton] at hy
          rw [hy]
          exact (hb5 z hz).1
        · obtain ⟨u1, u2, u3, u4, u5⟩ := d18
          exact ⟨u1, u2, u3, u4, upd_kept (sVK _ _ u5) nuD.symm⟩
        · refine Paired.snoc (Paired.mapP p19 fun _ _ e => ⟨e.1, let ⟨q, e1, e2⟩ := e.2; ⟨q, e1, upd_kept e2 (ne_of e2 g19 (by intro z; cases z))⟩⟩) ?_
          exact ⟨rfl, tv, rfl, upd_kept (sK _ _ eV) (ne_of (sK _ _ eV) g19 (by intro z; cases z))⟩
      · repeat walk_at "st"
        refine ⟨kvs, rus, by omega, (fun x hx => ?_), hw5, s15, d15, g15, p15, _, _, _, rfl⟩
        have := hb5 x hx
        exact ⟨by omega, this.2⟩
    rintro σ HB ⟨kvs, rus, hl5, hb5, hw5, s5, d5, g5, p5, y8, y10, y11, rfl⟩
    rw [Int.toNat_natCast] at hl5 hb5
    refine ⟨kvs, rus, by omega, (fun x hx => ?_), hw5, s5, d5, g5, p5, _, _, _, _, rfl⟩
    have := hb5 x hx
    exact ⟨by omega, this.2⟩
  rintro σ HA ⟨kvs, rus, hl4, hb4, hw4, s4, d4, g4, p4, y8, y9, y10, y11, rfl⟩
  rw [Int.toNat_natCast] at hl4 hb4
  repeat walk_at "st"
  refine ⟨fl, _, rfl, .inl ⟨SqL.of (s4 _ _ gf'), fun a3 na3 => ?_⟩⟩
  repeat walk_at "st"
  refine ⟨rb, _, rfl, .inl ⟨SqL.of (Same.new na3 _ _ (s4 _ _ gr3)), fun a4 na4 => ?_⟩⟩
  repeat walk_at "st"
  refine ⟨by show 5 ≤ sizeLine; omega, fun q nq => ?_⟩
  have sZ := ((Same.new (o := .tup (fls.map fun (i : Nat) => V.int (i : Int))) na3).trans (Same.new (o := .tup (qs.map V.ref)) na4)).trans (Same.new (o := .tup [.ref a1, .ref a2, .ref a3, .ref a4, .ref ru]) nq)
  refine k _ ⟨q, a1, a2, a3, a4, ru⟩ ⟨sg, md, fls, rbs, rus⟩ ?_ ?_ ?_ ?_
  · exact ⟨T1.1, T1.2.1, by show 1 ≤ sg.length ∧ sg.length ≤ 4; omega, T2.1, T2.2.1, by show 1 ≤ md.length ∧ md.length ≤ 3; omega, hb, by show 1 ≤ fls.length ∧ fls.length ≤ most; omega, (fun r hr => by rw [show (LP.mk sg md fls rbs rus).fl.length = nt from hl]; exact hb3 r hr), by show 1 ≤ rbs.length ∧ rbs.length ≤ 3; omega, hb4, hw4, by show rus.length ≤ 12; omega⟩
  · refine ⟨upd_same, sZ _ _ (s4 _ _ ga1'), sZ _ _ (s4 _ _ ga2'), upd_kept (upd_kept upd_same (ne_of_none upd_same na4)) (ne_of_none (upd_kept upd_same (ne_of_none upd_same na4)) nq), ⟨qs, upd_kept upd_same (ne_of_none upd_same nq), Paired.mapP gp3 fun _ _ e => sZ _ _ (s4 _ _ e)⟩,
      ⟨kvs, sZ _ _ g4, Paired.mapP p4 fun _ _ e => ⟨e.1, let ⟨q, e1, e2⟩ := e.2; ⟨q, e1, sZ _ _ e2⟩⟩⟩⟩
  · exact fun b o e n => sZ _ _ (s4 _ _ (sG3 _ _ (sG2 _ _ (sGH _ _ (Less_at e n)))))
  · exact d4.same sZ
end
end Sw

/-! The lines and the text of a drawn plan. -/
namespace Sw
open PySem L2
def sp_l_lines (K : PySem.W.Frag) (a : Adr) : Sp := fun vs H Q _ => ∃ (A : LA) (p : LP), vs = [.ref A.q] ∧ LPAt H A p ∧ GoodLP 16 p ∧ ∀ (H' : Hp) (l : Addr), Same H H' → H l = none → H' l = some (.lst ((lawL p).map V.str)) → Q (.ref l) H'
def sp_l_text (K : PySem.W.Frag) (a : Adr) : Sp := fun vs H Q _ => ∃ (A : LA) (p : LP), vs = [.ref A.q] ∧ LPAt H A p ∧ GoodLP 16 p ∧ ∀ (H' : Hp), Same H H' → Q (.str (Txt.join "\n" (lawL p))) H'
theorem lits2 : ("corridor " : Str).length = 9 ∧ ("signs " : Str).length = 6 ∧ ("moods " : Str).length = 6 ∧ ("robot " : Str).length = 6 ∧ ("put " : Str).length = 4 ∧ (" right;" : Str).length = 7 ∧ (" left;" : Str).length = 6 ∧ (" " : Str).length = 1 ∧ (";" : Str).length = 1 ∧ ("when" : Str).length = 4 ∧ ("leave" : Str).length = 5 := by decide +kernel
theorem rl_getL {H : Hp} {kvs : List (List Key × V)} {l : List ((Nat × Nat) × Nat × Nat × Nat)} {k : Nat × Nat} {r : Nat × Nat × Nat} (hp : Paired (RuL H) kvs l) (h : ruleAt l k = some r) :
    ∃ q, valV kvs [Sum.inl (k.1 : Int), Sum.inl (k.2 : Int)] = some (.ref q) ∧ H q = some (.tup [.int (r.1 : Int), .str (MOVESs.getD r.2.1 Str.empty), .int (r.2.2 : Int)]) := by
  induction hp with
  | nil => cases h
  | @cons kv x kvs l h1 h2 ih =>
    unfold ruleAt at h
    by_cases e : x.1 = k
    · rw [if_pos e] at h
      cases h
      obtain ⟨g1, q, g2, g3⟩ := h1
      refine ⟨q, ?_, g3⟩
      rw [valV_pos (by rw [g1, e])]
      rw [g2]
    · rw [if_neg e] at h
      obtain ⟨q, g2, g3⟩ := ih h
      refine ⟨q, ?_, g3⟩
      rw [valV_neg (fun e2 => e ?_)]
      · exact g2
      · have e3 := h1.1.symm.trans e2
        simp only [List.cons.injEq, Sum.inl.injEq, Int.natCast_inj, and_true] at e3
        obtain ⟨k1, k2⟩ := k
        obtain ⟨⟨x, y⟩, z⟩ := x
        rw [Prod.mk.injEq]
        exact e3
theorem ruKeysL {H : Hp} {kvs : List (List Key × V)} {l : List ((Nat × Nat) × Nat × Nat × Nat)} (hp : Paired (RuL H) kvs l) : kvs.map (·.1) = (l.map fun r => ((r.1.1 : Int), (r.1.2 : Int))).map fun p => [Sum.inl p.1, Sum.inl p.2] := by
  induction hp with
  | nil => rfl
  | cons h t ih => rw [List.map_cons, List.map_cons, List.map_cons, ih, h.1]
theorem r_joinT {p : Addr} {sep : Str} {ys : List Str} {K : PySem.W.Frag} {H : Hp} {R : Str → Addr → List Str → Prop} (e : H p = some (.tup (ys.map V.str))) (hl : (ys.map (·.length)).sum + ys.length * sep.length ≤ 16777216) (h : R sep p ys) :
    ∃ a' p', ∃ ys' : List Str, V.str sep = .str a' ∧ [V.ref p] = [.ref p'] ∧ (SqL K H p' (ys'.map V.str) ∨ SqT K H p' (ys'.map V.str)) ∧ (ys'.map (·.length)).sum + ys'.length * a'.length ≤ 16777216 ∧ R a' p' ys' := ⟨sep, p, ys, rfl, rfl, .inr (SqT.of e), hl, h⟩
theorem r_strI {n : Int} {R : Int → Prop} (e : n.natAbs.log2 < 1920) (h : R n) : ∃ i : Int, [V.int n] = [.int i] ∧ i.natAbs.log2 < 1920 ∧ R i := ⟨n, rfl, e, h⟩
theorem fl_map {l : List Nat} {i : Nat} (h : i < l.length) : (l.map fun (i : Nat) => V.int (i : Int))[i]? = some (.int ((l.getD i 0 : Nat) : Int)) := by
  rw [List.getElem?_map, List.getElem?_eq_getElem h, List.getD_eq_getElem?_getD, List.getElem?_eq_getElem h]
  rfl
theorem fl_lt {most : Nat} {p : LP} (G : GoodLP most p) {i : Nat} (h : i < p.fl.length) : p.fl.getD i 0 < p.sg.length := by
  rw [List.getD_eq_getElem?_getD, List.getElem?_eq_getElem h]
  exact G.fl _ (List.getElem_mem h)
theorem words_len {most : Nat} {p : LP} (G : GoodLP most p) {x : (Nat × Nat) × Nat × Nat × Nat} (hx : x ∈ p.ru) : ((lwWords p x).map (·.length)).sum + (lwWords p x).length * (" " : Str).length ≤ 100 ∧ (Txt.join " " (lwWords p x)).length ≤ 100 := by
  have B := G.ru x hx
  have l1 := getD_len (md_len G) B.1
  have l2 := getD_len (sg_len G) B.2.1
  have l3 := getD_len (sg_len G) B.2.2.1
  have l4 := MOVES_len x.2.2.1
  have l5 := getD_len (md_len G) B.2.2.2.2
  have h := join_len " " (lwWords p x)
  have e : ((lwWords p x).map (·.length)).sum + (lwWords p x).length * (" " : Str).length ≤ 100 := by
    obtain ⟨z1, z2, z3, z4, z5, z6, z7, z8, z9, z10, z11⟩ := lits2
    unfold lwWords
    simp only [List.map_cons, List.map_nil, List.sum_cons, List.sum_nil, List.length_cons, List.length_nil]
    omega
  omega
theorem lawL_small {p : LP} (G : GoodLP 16 p) : ∀ s ∈ lawL p, s.length ≤ 200 := by
  intro s hs
  obtain ⟨z1, z2, z3, z4, z5, z6, z7, z8, z9, z10, z11⟩ := lits2
  have G1 := G.f1
  have G2 := G.s1
  have G3 := G.m1
  have j1 := join_small (sg_len G) (by omega)
  have j2 := join_small (md_len G) (by omega)
  have n1 : (nS (p.fl.length : Int)).length ≤ 2 := nS_small _ (by omega) (by omega)
  unfold lawL at hs
  rw [List.mem_append, List.mem_append, List.mem_append] at hs
  rcases hs with ((hs | hs) | hs) | hs
  · rw [List.mem_cons, List.mem_cons, List.mem_cons] at hs
    rcases hs with rfl | rfl | rfl | hs
    · unfold lwCor; (simp only [slen_app, slen_empty]; omega)
    · unfold lwSigns; (simp only [slen_app, slen_empty]; omega)
    · unfold lwMoods; (simp only [slen_app, slen_empty]; omega)
    · cases hs
  · obtain ⟨r, hr, rfl⟩ := List.mem_map.mp hs
    have B := G.rb r hr
    have n2 : (nS (r.1 : Int)).length ≤ 2 := nS_small _ (by omega) (by omega)
    unfold lwRob
    cases r.2 with
    | true => rw [if_pos rfl]; (simp only [slen_app, slen_empty]; omega)
    | false => rw [if_neg (by decide)]; (simp only [slen_app, slen_empty]; omega)
  · obtain ⟨t, h1, h2⟩ := List.mem_flatMap.mp hs
    rw [List.mem_range] at h1
    have n2 : (nS (t : Int)).length ≤ 2 := nS_small _ (by omega) (by omega)
    have n3 := getD_len (sg_len G) (fl_lt G h1)
    unfold lwPut at h2
    by_cases hz : 0 < p.fl.getD t 0
    · rw [if_pos hz, List.mem_singleton] at h2
      rw [h2]
      unfold lwPutS; (simp only [slen_app, slen_empty]; omega)
    · rw [if_neg hz] at h2; cases h2
  · obtain ⟨x, h1, rfl⟩ := List.mem_map.mp hs
    have W := words_len G h1
    unfold lwRule; (simp only [slen_app, slen_empty]; omega)
theorem flat_le (p : LP) : ∀ n, ((List.range n).flatMap (lwPut p)).length ≤ n
  | 0 => Nat.le_refl _
  | n + 1 => by
    rw [List.range_succ, List.flatMap_append, List.length_append]
    have := flat_le p n
    have h : ([n].flatMap (lwPut p)).length ≤ 1 := by
      rw [List.flatMap_cons, List.flatMap_nil, List.append_nil]
      unfold lwPut; split <;> simp
    omega
theorem lawL_count {p : LP} (G : GoodLP 16 p) : (lawL p).length ≤ 34 := by
  unfold lawL
  have h := flat_le p p.fl.length
  have := G.f1
  have := G.r1
  have := G.ul
  rw [List.length_append, List.length_append, List.length_append, List.length_map, List.length_map]
  show 3 + _ + _ + _ ≤ _
  omega
section
variable {P : Program} {w : World} {K : PySem.W.Frag} {mg : Str → Option Value} {base : Heap} {a : Adr}
theorem ok_l_lines {f : Addr} {fd : FuncData} (F : Fun K "_law_lines" "_law_lines" s_l_lines f fd) (T : Txt w K mg a)
     :
    FnOk P w K mg base CX0 1 f fd ps_l_lines (sp_l_lines K a) := by
  refine F.ok sc_l_lines (fun vs H Q E h => ?_) (fun cdv A outer s H vs Q E hr h => ?_)
  · obtain ⟨A, p, rfl, hA, G, k⟩ := h
    rfl
  obtain ⟨A, p, rfl, hA, G, k⟩ := h
  have hu := hu_of hr
  refine ⟨_, 
    (pss_cons (ps_asg (pv 0) (pg_tup rfl (pgs_cons (pg_name (i := 1) sc_l_lines.nd rfl (.inl rfl)) (pgs_cons (pg_name (i := 2) sc_l_lines.nd rfl (.inl rfl)) (pgs_cons (pg_name (i := 3) sc_l_lines.nd rfl (.inl rfl)) (pgs_cons (pg_name (i := 4) sc_l_lines.nd rfl (.inl rfl)) (pgs_cons (pg_name (i := 5) sc_l_lines.nd rfl (.inl rfl)) pgs_nil))))))) 
    (pss_cons (ps_set (i := 6) sc_l_lines.nd rfl (.inl rfl) (pe_lst (pa_cons (pe_op op_add_str (pe_op op_add_str pe_str (pe_callTy call_str_int (by rfl) T.n_str (by decide +kernel) (pa_cons (pe_callB call_len_seq (by rfl) T.n_len PySem.boot_len (pa_cons (pv 3) pa_nil)) pa_nil))) pe_str) (pa_cons (pe_op op_add_str (pe_op op_add_str pe_str (pe_join pe_str (pv 1))) pe_str) (pa_cons (pe_op op_add_str (pe_op op_add_str pe_str (pe_join pe_str (pv 2))) pe_str) pa_nil))))) 
    (pss_cons (ps_for PassesOwn.never rfl (pi_tup (pv 4)) (pg_tup rfl (pgs_cons (pg_name (i := 7) sc_l_lines.nd rfl (.inl rfl)) (pgs_cons (pg_name (i := 8) sc_l_lines.nd rfl (.inl rfl)) pgs_nil))) 
      (pss_one (ps_expr (pe_bm PySem.F.plainAttrs_list PySem.F.slot_list_append PySem.F.type_list_append mt_append (pv 6) (pa_cons (pe_op op_add_str (pe_op op_add_str pe_str (pe_callTy call_str_int (by rfl) T.n_str (by decide +kernel) (pa_cons (pv 7) pa_nil))) (pe_ifExp (pt_val (pv 8)) pe_str pe_str)) pa_nil))))) 
    (pss_cons (ps_for PassesOwn.never rfl (pi_range1 (by rfl) T.n_range (pa_cons (pe_callB call_len_seq (by rfl) T.n_len PySem.boot_len (pa_cons (pv 3) pa_nil)) pa_nil)) (pg_name (i := 7) sc_l_lines.nd rfl (.inl rfl)) 
      (pss_one (ps_if (pt_cmpR op_gt (pe_ix ix_tup (pv 3) (pv 7) (fun _ _ => rfl)) pe_int (nomark _)) 
        (pss_one (ps_expr (pe_bm PySem.F.plainAttrs_list PySem.F.slot_list_append PySem.F.type_list_append mt_append (pv 6) (pa_cons (pe_op op_add_str (pe_op op_add_str (pe_op op_add_str (pe_op op_add_str pe_str (pe_ix ix_tup (pv 1) (pe_ix ix_tup (pv 3) (pv 7) (fun _ _ => rfl)) (fun _ _ => rfl))) pe_str) (pe_callTy call_str_int (by rfl) T.n_str (by decide +kernel) (pa_cons (pv 7) pa_nil))) pe_str) pa_nil)))) pss_nil))) 
    (pss_cons (ps_for PassesOwn.never rfl (pi_list (pe_callB (cr_sortedDP rfl) (by rfl) T.n_sorted (by decide +kernel) (pa_cons (pv 5) pa_nil))) (pg_tup rfl (pgs_cons (pg_name (i := 9) sc_l_lines.nd rfl (.inl rfl)) (pgs_cons (pg_name (i := 10) sc_l_lines.nd rfl (.inl rfl)) pgs_nil))) 
      (pss_cons (ps_asg (pe_dget hu (pv 5) (pe_tup (pa_cons (pv 9) (pa_cons (pv 10) pa_nil))) (fun _ _ => rfl)) (pg_tup rfl (pgs_cons (pg_name (i := 11) sc_l_lines.nd rfl (.inl rfl)) (pgs_cons (pg_name (i := 12) sc_l_lines.nd rfl (.inl rfl)) (pgs_cons (pg_name (i := 13) sc_l_lines.nd rfl (.inl rfl)) pgs_nil))))) 
      (pss_cons (ps_set (i := 14) sc_l_lines.nd rfl (.inl rfl) (pe_lst (pa_cons pe_str (pa_cons (pe_ix ix_tup (pv 2) (pv 9) (fun _ _ => rfl)) (pa_cons (pe_ix ix_tup (pv 1) (pv 10) (fun _ _ => rfl)) (pa_cons pe_str (pa_cons (pe_ix ix_tup (pv 1) (pv 11) (fun _ _ => rfl)) (pa_cons (pv 12) (pa_cons (pe_ix ix_tup (pv 2) (pv 13) (fun _ _ => rfl)) pa_nil))))))))) 
      (pss_one (ps_expr (pe_bm PySem.F.plainAttrs_list PySem.F.slot_list_append PySem.F.type_list_append mt_append (pv 6) (pa_cons (pe_op op_add_str (pe_join pe_str (pv 14)) pe_str) pa_nil))))))) 
    (pss_one (ps_ret (pv 6)))))))), ?_⟩
  have szl : 10000 ≤ sizeLine := by decide
  obtain ⟨z1, z2, z3, z4, z5, z6, z7, z8, z9, z10, z11⟩ := lits2
  obtain ⟨qs, hrb, hrbs⟩ := hA.rb
  obtain ⟨kvs, hkv, hkvs⟩ := hA.ru
  have G1 := G.f1
  have G2 := G.s1
  have G3 := G.m1
  have G4 := G.r1
  have G5 := G.ul
  have j1 := join_small (sg_len G) (by omega)
  have j2 := join_small (md_len G) (by omega)
  have n1 : (Str.ofString (toString (p.fl.length : Int))).length ≤ 2 := nS_small _ (by omega) (by omega)
  repeat walk_at "st"
  refine r_gTup (xs := [.ref A.sg, .ref A.md, .ref A.fl, .ref A.rb, .ref A.ru]) (SqT.of hA.q) rfl ?_
  repeat walk_at "st"
  refine r_lenL (.inr (SqT.of hA.fl)) ?_
  repeat walk_at "st"
  rw [List.length_map]
  refine r_strI (log_small (by omega) (by omega)) ?_
  refine r_str2 (by omega) ?_
  repeat walk_at "st"
  refine r_str2 (by (simp only [slen_app, slen_empty]; omega)) ?_
  repeat walk_at "st"
  refine r_joinT hA.sg (by omega) ?_
  refine r_str2 (by omega) ?_
  repeat walk_at "st"
  refine r_str2 (by (simp only [slen_app, slen_empty]; omega)) ?_
  repeat walk_at "st"
  refine r_joinT hA.md (by omega) ?_
  refine r_str2 (by omega) ?_
  repeat walk_at "st"
  refine r_str2 (by (simp only [slen_app, slen_empty]; omega)) ?_
  repeat walk_at "st"
  refine ⟨by show 3 ≤ sizeLine; omega, fun L nL => ?_⟩
  have s1 : Same H (upd H L (.lst ([lwCor (p.fl.length : Int), lwSigns (Txt.join " " p.sg), lwMoods (Txt.join " " p.md)].map V.str))) := Same.new nL
  have g1 : (upd H L (.lst ([lwCor (p.fl.length : Int), lwSigns (Txt.join " " p.sg), lwMoods (Txt.join " " p.md)].map V.str))) L = some (.lst ([lwCor (p.fl.length : Int), lwSigns (Txt.join " " p.sg), lwMoods (Txt.join " " p.md)].map V.str)) := upd_same
  show gName 6 (.ref L) _ (upd H L (.lst ([lwCor (p.fl.length : Int), lwSigns (Txt.join " " p.sg), lwMoods (Txt.join " " p.md)].map V.str))) _
  generalize upd H L (.lst ([lwCor (p.fl.length : Int), lwSigns (Txt.join " " p.sg), lwMoods (Txt.join " " p.md)].map V.str)) = H1 at s1 g1 ⊢
  obtain ⟨L3, hL3⟩ : ∃ l, l = [lwCor (p.fl.length : Int), lwSigns (Txt.join " " p.sg), lwMoods (Txt.join " " p.md)] := ⟨_, rfl⟩
  rw [← hL3] at g1
  have hl3 : L3.length = 3 := by rw [hL3]; rfl
  repeat walk_at "st"
  refine r_itT (SqT.of (s1 _ _ hrb)) ?_
  refine for_tup (xs := qs.map V.ref) (fun i σ H3 => Same H H3 ∧ H3 L = some (.lst ((L3 ++ (p.rb.take i).map lwRob).map V.str)) ∧ ∃ y7 y8 y9 y10 y11 y12 y13 y14, σ = [some (.ref A.q), some (.ref A.sg), some (.ref A.md), some (.ref A.fl), some (.ref A.rb), some (.ref A.ru), some (.ref L), y7, y8, y9, y10, y11, y12, y13, y14])
    ⟨s1, by rw [List.take_zero, List.map_nil, List.append_nil]; exact g1, _, _, _, _, _, _, _, _, rfl⟩ ?_ ?_ ?_
  · rintro i σ H3 _ ⟨s3, _⟩
    exact SqT.of (s3 _ _ hrb)
  · rintro i x σ H3 hx ⟨s3, g3, y7, y8, y9, y10, y11, y12, y13, y14, rfl⟩
    rw [List.getElem?_map] at hx
    cases hq : qs[i]? with
    | none => rw [hq] at hx; cases hx
    | some q =>
      rw [hq] at hx
      cases hx
      obtain ⟨r, hr1, hr2⟩ := paired_get hrbs hq
      have B := G.rb r (List.mem_of_getElem? hr1)
      have n2 : (Str.ofString (toString (r.1 : Int))).length ≤ 2 := nS_small _ (by omega) (by omega)
      refine r_gTup (xs := [.int (r.1 : Int), .bl r.2]) (SqT.of (s3 _ _ hr2)) rfl ?_
      repeat walk_at "st"
      refine r_tyL (SqL.of g3) ?_
      repeat walk_at "st"
      refine r_strI (log_small (by omega) (by omega)) ?_
      refine r_str2 (by omega) ?_
      repeat walk_at "st"
      have fin : ∀ z : Str, z.length ≤ 7 → z = (if r.2 then (" right;" : Str) else " left;") → ∃ i' j', V.str ("robot " ++ Str.ofString (toString (r.1 : Int))) = .str i' ∧ V.str z = .str j' ∧ i'.length + j'.length ≤ sizeLine ∧
          rAppend (.ref L) [.str (i' ++ j')] H3 fun _ H1 => Same H H1 ∧ H1 L = some (.lst ((L3 ++ (p.rb.take (i + 1)).map lwRob).map V.str)) ∧ ∃ z7 z8 z9 z10 z11 z12 z13 z14, ([some (.ref A.q), some (.ref A.sg), some (.ref A.md), some (.ref A.fl), some (.ref A.rb), some (.ref A.ru), some (.ref L), some (.int (r.1 : Int)), some (.bl r.2), y9, y10, y11, y12, y13, y14] : St) = [some (.ref A.q), some (.ref A.sg), some (.ref A.md), some (.ref A.fl), some (.ref A.rb), some (.ref A.ru), some (.ref L), z7, z8, z9, z10, z11, z12, z13, z14] := by
        intro z hz ez
        refine r_str2 (by (simp only [slen_app, slen_empty]; omega)) ?_
        refine r_app g3 (by rw [List.length_map, List.length_append, List.length_map, List.length_take]; omega) ?_
        refine ⟨Same.mut s3 nL, ?_, _, _, _, _, _, _, _, _, rfl⟩
        rw [upd_same, List.take_add_one, hr1, ez, List.map_append, List.map_append, List.map_append, List.map_append, List.append_assoc]
        rfl
      cases hb : r.2 with
      | true =>
        rw [hb] at fin
        refine iteT ?_
        repeat walk_at "st"
        exact fin _ (by omega) rfl
      | false =>
        rw [hb] at fin
        refine iteF ?_
        repeat walk_at "st"
        exact fin _ (by omega) rfl
  rintro σ H3 ⟨s3, g3, y7, y8, y9, y10, y11, y12, y13, y14, rfl⟩
  rw [List.length_map, PySem.Paired.length hrbs, List.take_length] at g3
  obtain ⟨L4, hL4⟩ : ∃ l, l = L3 ++ p.rb.map lwRob := ⟨_, rfl⟩
  rw [← hL4] at g3
  have hl4 : L4.length ≤ 6 := by rw [hL4, List.length_append, List.length_map]; omega
  repeat walk_at "st"
  refine r_lenL (.inr (SqT.of (s3 _ _ hA.fl))) ?_
  repeat walk_at "st"
  rw [List.length_map]
  refine ⟨_, rfl, by omega, by omega, ?_⟩
  refine for_range (fun i σ H5 => Same H H5 ∧ H5 L = some (.lst ((L4 ++ (List.range i).flatMap (lwPut p)).map V.str)) ∧ ((List.range i).flatMap (lwPut p)).length ≤ i ∧ ∃ y7 y8 y9 y10 y11 y12 y13 y14, σ = [some (.ref A.q), some (.ref A.sg), some (.ref A.md), some (.ref A.fl), some (.ref A.rb), some (.ref A.ru), some (.ref L), y7, y8, y9, y10, y11, y12, y13, y14])
    ⟨s3, by rw [List.range_zero, List.flatMap_nil, List.append_nil]; exact g3, by simp, _, _, _, _, _, _, _, _, rfl⟩ ?_ ?_
  · rintro i σ H5 hi ⟨s5, g5, b5, y7, y8, y9, y10, y11, y12, y13, y14, rfl⟩
    rw [Int.toNat_natCast] at hi
    have B := fl_lt G hi
    have n2 : (Str.ofString (toString (i : Int))).length ≤ 2 := nS_small _ (by omega) (by omega)
    have n3 := getD_len (sg_len G) B
    have eL : (List.range (i + 1)).flatMap (lwPut p) = (List.range i).flatMap (lwPut p) ++ lwPut p i := by
      rw [List.range_succ, List.flatMap_append]
      simp
    rw [show (0 : Int) + (i : Int) = (i : Int) by omega]
    repeat walk_at "st"
    refine r_ixT (SqT.of (s5 _ _ hA.fl)) (nat_at (fl_map hi)) ?_
    repeat walk_at "st"
    refine ite_b (p := 0 < p.fl.getD i 0) (by by_cases h : 0 < p.fl.getD i 0 <;> simp [h] <;> omega) (fun hz => ?_) fun hz => ?_
    · repeat walk_at "st"
      refine r_tyL (SqL.of g5) ?_
      repeat walk_at "st"
      refine r_ixT (SqT.of (s5 _ _ hA.fl)) (nat_at (fl_map hi)) ?_
      refine r_ixT (SqT.of (s5 _ _ hA.sg)) (nat_at (map_getD B)) ?_
      refine r_str2 (by omega) ?_
      repeat walk_at "st"
      refine r_str2 (by (simp only [slen_app, slen_empty]; omega)) ?_
      repeat walk_at "st"
      refine r_strI (log_small (by omega) (by omega)) ?_
      refine r_str2 (by (simp only [slen_app, slen_empty]; omega)) ?_
      repeat walk_at "st"
      refine r_str2 (by (simp only [slen_app, slen_empty]; omega)) ?_
      repeat walk_at "st"
      refine r_app g5 (by rw [List.length_map, List.length_append]; omega) ?_
      have ep : lwPut p i = [lwPutS (p.sg.getD (p.fl.getD i 0) Str.empty) i] := by unfold lwPut; rw [if_pos hz]
      refine ⟨Same.mut s5 nL, ?_, ?_, _, _, _, _, _, _, _, _, rfl⟩
      · rw [upd_same, eL, ep, ← List.append_assoc, List.map_append (l₁ := L4 ++ _)]
        rfl
      · rw [eL, ep, List.length_append]
        show _ + 1 ≤ _
        omega
    · repeat walk_at "st"
      have ep : lwPut p i = [] := by unfold lwPut; rw [if_neg hz]
      rw [eL, ep, List.append_nil]
      exact ⟨s5, g5, by omega, _, _, _, _, _, _, _, _, rfl⟩
  rintro σ H5 ⟨s5, g5, b5, y7, y8, y9, y10, y11, y12, y13, y14, rfl⟩
  rw [Int.toNat_natCast] at g5 b5
  obtain ⟨L5, hL5⟩ : ∃ l, l = L4 ++ (List.range p.fl.length).flatMap (lwPut p) := ⟨_, rfl⟩
  have hl5 : L5.length ≤ 22 := by
    rw [hL5, List.length_append]
    omega
  rw [← hL5] at g5
  repeat walk_at "st"
  refine ⟨A.ru, kvs, _, rfl, .of (s5 _ _ hkv), ruKeysL hkvs, fun ys zs pt2 hz1 hz2 npt2 hpz => ?_⟩
  have s7 : Same H (Less L (upd H5 pt2 (.lst (ys.map V.ref)))) := Less_from (s5.trans (Same.new npt2)) nL
  have s7' : Same (Less L (upd H5 pt2 (.lst (ys.map V.ref)))) (upd H5 pt2 (.lst (ys.map V.ref))) := Less_same
  have nG : Less L (upd H5 pt2 (.lst (ys.map V.ref))) L = none := Less_none
  have npL : pt2 ≠ L := (ne_of_none g5 npt2).symm
  have gp : Less L (upd H5 pt2 (.lst (ys.map V.ref))) pt2 = some (.lst (ys.map V.ref)) := Less_at upd_same npL
  have g7 : upd H5 pt2 (.lst (ys.map V.ref)) L = some (.lst (L5.map V.str)) := upd_kept g5 npL.symm
  have hpz : Paired (fun b (z : Int × Int) => Less L (upd H5 pt2 (.lst (ys.map V.ref))) b = some (.tup [.int z.1, .int z.2])) ys zs := Paired.mapP hpz fun b z e =>
    Less_at (Same.new npt2 _ _ e) (ne_of e g5 (by intro z; cases z))
  generalize Less L (upd H5 pt2 (.lst (ys.map V.ref))) = Gf at s7 s7' nG gp hpz
  generalize upd H5 pt2 (.lst (ys.map V.ref)) = H7 at s7' g7 ⊢
  have hkeys : zs.map toN = p.ru.map (·.1) := lexN_uniq (toN_sorted hz1 hz2) (ltN_lex G.up) (toN_perm hz1)
  refine r_itL (SqL.of (s7' _ _ gp)) ?_
  refine for_list (xs := ys.map V.ref) (fun i σ H8 => Same Gf H8 ∧ H8 L = some (.lst ((L5 ++ (p.ru.take i).map (lwRule p)).map V.str)) ∧ ∃ y7 y8 y9 y10 y11 y12 y13 y14, σ = [some (.ref A.q), some (.ref A.sg), some (.ref A.md), some (.ref A.fl), some (.ref A.rb), some (.ref A.ru), some (.ref L), y7, y8, y9, y10, y11, y12, y13, y14])
    ⟨s7', by rw [List.take_zero, List.map_nil, List.append_nil]; exact g7, _, _, _, _, _, _, _, _, rfl⟩ ?_ ?_ ?_
  · rintro i σ H8 _ ⟨s8, _⟩
    exact SqL.of (s8 _ _ gp)
  · rintro i x σ H8 hx ⟨s8, g8, y7, y8, y9, y10, y11, y12, y13, y14, rfl⟩
    rw [List.getElem?_map] at hx
    cases hq : ys[i]? with
    | none => rw [hq] at hx; cases hx
    | some q =>
      rw [hq] at hx
      cases hx
      obtain ⟨z, hr1, hr2⟩ := paired_get hpz hq
      obtain ⟨hb1, hb2⟩ := toN_back hz1 z (List.mem_of_getElem? hr1)
      obtain ⟨x, hx1, hx2⟩ : ∃ x, p.ru[i]? = some x ∧ x.1 = toN z := by
        have e : (zs.map toN)[i]? = some (toN z) := by rw [List.getElem?_map, hr1]; rfl
        rw [hkeys, List.getElem?_map] at e
        cases hx : p.ru[i]? with
        | none => rw [hx] at e; cases e
        | some x => rw [hx] at e; exact ⟨x, rfl, Option.some.inj e⟩
      have hxm := List.mem_of_getElem? hx1
      have B := G.ru x hxm
      have hget := ruleAt_of (ltN_nodup G.up) hxm
      have s9 := s7.trans s8
      obtain ⟨tv, hv1, hv2⟩ := rl_getL (Paired.mapP hkvs fun _ _ e => (⟨e.1, let ⟨q, e1, e2⟩ := e.2; ⟨q, e1, s9 _ _ e2⟩⟩ : RuL H8 _ _)) hget
      have ez : z = ((x.1.1 : Int), (x.1.2 : Int)) := by rw [hx2]; exact hb1
      have W := words_len G hxm
      refine r_gTup (xs := [.int z.1, .int z.2]) (SqT.of (s8 _ _ hr2)) rfl ?_
      rw [ez]
      dsimp only
      repeat walk_at "st"
      refine ⟨by show 2 ≤ sizeLine; omega, fun tk ntk => ?_⟩
      have sK : Same H8 (upd H8 tk (.tup [.int (x.1.1 : Int), .int (x.1.2 : Int)])) := Same.new ntk
      have eK : (upd H8 tk (.tup [.int (x.1.1 : Int), .int (x.1.2 : Int)])) tk = some (.tup ([Sum.inl (x.1.1 : Int), Sum.inl (x.1.2 : Int)].map kV)) := upd_same
      generalize upd H8 tk (.tup [.int (x.1.1 : Int), .int (x.1.2 : Int)]) = H9 at sK eK ⊢
      have s10 := s9.trans sK
      refine r_dOf (v := .ref tv) (by rw [← hv1]; exact DGet.t (s10 _ _ hkv) eK) ?_
      refine r_gTup (xs := [.int (x.2.1 : Int), .str (MOVESs.getD x.2.2.1 Str.empty), .int (x.2.2.2 : Int)]) (SqT.of (sK _ _ hv2)) rfl ?_
      repeat walk_at "st"
      refine r_ixT (SqT.of (s10 _ _ hA.md)) (nat_at (map_getD B.1)) ?_
      repeat walk_at "st"
      refine r_ixT (SqT.of (s10 _ _ hA.sg)) (nat_at (map_getD B.2.1)) ?_
      repeat walk_at "st"
      refine r_ixT (SqT.of (s10 _ _ hA.sg)) (nat_at (map_getD B.2.2.1)) ?_
      repeat walk_at "st"
      refine r_ixT (SqT.of (s10 _ _ hA.md)) (nat_at (map_getD B.2.2.2.2)) ?_
      repeat walk_at "st"
      refine ⟨by show 7 ≤ sizeLine; omega, fun tw ntw => ?_⟩
      show gName 14 (.ref tw) _ (upd H9 tw (.lst ((lwWords p x).map V.str))) _
      have sW : Same H9 (upd H9 tw (.lst ((lwWords p x).map V.str))) := Same.new ntw
      have eW : (upd H9 tw (.lst ((lwWords p x).map V.str))) tw = some (.lst ((lwWords p x).map V.str)) := upd_same
      generalize upd H9 tw (.lst ((lwWords p x).map V.str)) = H10 at sW eW ⊢
      have g10 := sW _ _ (sK _ _ g8)
      repeat walk_at "st"
      refine r_tyL (SqL.of g10) ?_
      repeat walk_at "st"
      refine r_joinL eW (by omega) ?_
      repeat walk_at "st"
      refine r_str2 (by omega) ?_
      repeat walk_at "st"
      refine r_app g10 (by rw [List.length_map, List.length_append, List.length_map, List.length_take]; omega) ?_
      refine ⟨Same.mut ((s8.trans sK).trans sW) nG, ?_, _, _, _, _, _, _, _, _, rfl⟩
      rw [upd_same, List.take_add_one, hx1, List.map_append, List.map_append, List.map_append, List.map_append, List.append_assoc]
      rfl
  rintro σ H8 ⟨s8, g8, y7, y8, y9, y10, y11, y12, y13, y14, rfl⟩
  have hlz : (ys.map V.ref).length = p.ru.length := by
    have := congrArg List.length hkeys
    rw [List.length_map, List.length_map] at this
    rw [List.length_map, PySem.Paired.length hpz, this]
  rw [hlz, List.take_length] at g8
  have eC : L5 ++ p.ru.map (lwRule p) = lawL p := by rw [hL5, hL4, hL3]; rfl
  rw [eC] at g8
  repeat walk_at "st"
  exact k _ L (s7.trans s8) nL g8
theorem ok_l_text {f : Addr} {fd : FuncData} (F : Fun K "_law_text" "_law_text" s_l_text f fd) (T : Txt w K mg a)
    {f_l_lines : Addr} {fd_l_lines : FuncData} (G_l_lines : Cal P w K mg base "_law_lines" 1 f_l_lines fd_l_lines ps_l_lines (sp_l_lines K a)) :
    FnOk P w K mg base CX0 2 f fd ps_l_text (sp_l_text K a) := by
  refine F.ok sc_l_text (fun vs H Q E h => ?_) (fun cdv A outer s H vs Q E hr h => ?_)
  · obtain ⟨A, p, rfl, hA, G, k⟩ := h
    rfl
  obtain ⟨A, p, rfl, hA, G, k⟩ := h
  have hu := hu_of hr
  refine ⟨_, 
    (pss_one (ps_ret (pe_join pe_str (pe_call G_l_lines.ok (hr.mono (by decide)) rfl G_l_lines.mg' G_l_lines.kp G_l_lines.b .nil pass0 (pa_cons (pv 0) pa_nil))))), ?_⟩
  repeat walk_at "st"
  refine ⟨A, p, rfl, hA, G, fun H1 l s1 nl g1 => ?_⟩
  have b1 := sum_le _ (lawL_small G)
  have b2 := lawL_count G
  have b3 : ("\n" : Str).length = 1 := by decide +kernel
  repeat walk_at "st"
  refine r_joinL g1 (by rw [b3]; omega) ?_
  exact k _ s1
end
end Sw

/-! A plan like the drawn one: small, and its canonical text. -/
namespace Sw
open PySem L2
theorem like_small {p : LP} {pd : PlanD} (G : GoodLP 16 p) (h : Like p pd) : Small pd := by
  have f1 := G.f1
  have s1 := G.s1
  have m1 := G.m1
  have r1 := G.r1
  have ul := G.ul
  refine ⟨by rw [h.sz]; omega, by rw [h.sg]; exact sg_len G, by rw [h.sg]; omega, by rw [h.md]; exact md_len G, by rw [h.md]; omega, fun r hr => ?_, by rw [h.rb, List.length_map]; omega, fun x hx => ?_, ?_, fun x hx => ?_, by rw [h.rl.length_eq]; omega⟩
  · rw [h.rb] at hr
    obtain ⟨q, hq, rfl⟩ := List.mem_map.mp hr
    have := G.rb q hq
    refine ⟨by show 0 ≤ (q.1 : Int); omega, by show (q.1 : Int) ≤ 16; omega, ?_⟩
    show (if q.2 then 1 else 0) < 2
    split <;> decide
  · obtain ⟨t, e1, e2, e3⟩ := h.p1 x hx
    rw [h.sg, e3]
    exact ⟨by omega, by omega, fl_lt G e2⟩
  · have h2 := php p.fl.length ((pd.puts.map (·.1)).map Int.toNat) (by
      refine List.pairwise_map.mpr (List.Pairwise.imp_of_mem (fun {x y} hx hy q e => ?_) h.p3)
      obtain ⟨x', hx', rfl⟩ := List.mem_map.mp hx
      obtain ⟨y', hy', rfl⟩ := List.mem_map.mp hy
      obtain ⟨t, e1, _⟩ := h.p1 x' hx'
      obtain ⟨u, e2, _⟩ := h.p1 y' hy'
      rw [e1, e2] at q e
      exact q (by omega)) (fun x hx => by
      obtain ⟨y, hy, rfl⟩ := List.mem_map.mp hx
      obtain ⟨z, hz, rfl⟩ := List.mem_map.mp hy
      obtain ⟨t, e1, e2, _⟩ := h.p1 z hz
      rw [e1]
      omega)
    rw [List.length_map, List.length_map] at h2
    omega
  · rw [h.md, h.sg]
    exact G.ru x (h.rl.mem_iff.mp hx)
theorem empty_app (x : Str) : Str.empty ++ x = x := TL.ext_tl (by rw [TL.tl_append]; rfl)
theorem lrob_eq (r : Nat × Bool) : robL ((r.1 : Int), if r.2 then 1 else 0) = lwRob r := by
  obtain ⟨t, b⟩ := r
  unfold robL lnRob lwRob
  refine TL.ext_tl ?_
  simp only [TL.tl_append, List.append_assoc]
  cases b <;> rfl
theorem lput_eq (s : Str) (t : Nat) : lnPut s (t : Int) = lwPutS s t := by
  unfold lnPut lwPutS
  rw [empty_app]
theorem putAt_of : ∀ {l : List (Int × Nat)} {t : Int} {i : Nat}, (l.map (·.1)).Nodup → (t, i) ∈ l → putAt l t = some i
  | [], _, _, _, h => by cases h
  | y :: r, t, i, hn, h => by
    unfold putAt
    rw [List.map_cons, List.nodup_cons] at hn
    rcases List.mem_cons.mp h with e | h
    · rw [← e, if_pos rfl]
    · rw [if_neg fun e => hn.1 (by rw [e]; exact List.mem_map.mpr ⟨_, h, rfl⟩)]
      exact putAt_of hn.2 h
theorem flat_congr {α β : Type} {f g : α → List β} : ∀ {l : List α}, (∀ x ∈ l, f x = g x) → l.flatMap f = l.flatMap g
  | [], _ => rfl
  | x :: r, h => by rw [List.flatMap_cons, List.flatMap_cons, h x (List.mem_cons_self ..), flat_congr fun y hy => h y (List.mem_cons_of_mem _ hy)]
theorem flat_filter {α β : Type} (f : α → List β) (g : α → Bool) : ∀ l : List α, (∀ x ∈ l, g x = false → f x = []) → (l.filter g).flatMap f = l.flatMap f
  | [], _ => rfl
  | x :: r, h => by
    have ih := flat_filter f g r fun y hy => h y (List.mem_cons_of_mem _ hy)
    cases e : g x with
    | true => rw [List.filter_cons, e, if_pos rfl, List.flatMap_cons, List.flatMap_cons, ih]
    | false => rw [List.filter_cons, e, if_neg (by decide), List.flatMap_cons, h x (List.mem_cons_self ..) e, ih]; rfl
theorem puts_eq {p : LP} {pd : PlanD} {ts : List Int} (G : GoodLP 16 p) (h : Like p pd) (h1 : PutsOf pd ts) : ts.flatMap (putL pd) = (List.range p.fl.length).flatMap (lwPut p) := by
  have hts : ts = ((List.range p.fl.length).filter fun (t : Nat) => decide ((t : Int) ∈ pd.puts.map (·.1))).map fun (t : Nat) => (t : Int) := by
    have hsub : ∀ x : Int, x ∈ pd.puts.map (·.1) → ∃ t : Nat, x = (t : Int) ∧ t < p.fl.length := fun x hx => by
      obtain ⟨y, hy, rfl⟩ := List.mem_map.mp hx
      obtain ⟨t, e1, e2, _⟩ := h.p1 y hy
      exact ⟨t, e1, e2⟩
    refine List.Perm.eq_of_pairwise (le := fun (a b : Int) => a ≤ b) (fun a b _ _ u v => Int.le_antisymm u v) h1.2 ?_ (h1.1.trans ?_)
    · refine List.pairwise_map.mpr ?_
      refine List.Pairwise.filter _ (List.pairwise_lt_range.imp fun {a b} q => ?_)
      omega
    · refine (List.perm_ext_iff_of_nodup h.p3 ?_).mpr fun x => ?_
      · refine List.pairwise_map.mpr (List.Pairwise.filter _ (List.nodup_range.imp fun {a b} q e => q (Int.ofNat.inj e)))
      · constructor
        · intro hx
          obtain ⟨t, rfl, ht⟩ := hsub x hx
          exact List.mem_map.mpr ⟨t, List.mem_filter.mpr ⟨List.mem_range.mpr ht, decide_eq_true hx⟩, rfl⟩
        · intro hx
          obtain ⟨t, ht, rfl⟩ := List.mem_map.mp hx
          exact of_decide_eq_true (List.mem_filter.mp ht).2
  rw [hts, List.flatMap_map]
  rw [show (fun t : Nat => putL pd (t : Int)) = fun t : Nat => putL pd (t : Int) from rfl]
  have e2 : ((List.range p.fl.length).filter fun (t : Nat) => decide ((t : Int) ∈ pd.puts.map (·.1))).flatMap (fun t : Nat => putL pd (t : Int)) = ((List.range p.fl.length).filter fun (t : Nat) => decide ((t : Int) ∈ pd.puts.map (·.1))).flatMap (lwPut p) := by
    refine flat_congr fun t ht => ?_
    obtain ⟨ht1, ht2⟩ := List.mem_filter.mp ht
    obtain ⟨y, hy, ey⟩ := List.mem_map.mp (of_decide_eq_true ht2)
    obtain ⟨u, e1, e2, e3⟩ := h.p1 y hy
    have hu : u = t := by omega
    subst hu
    have hput : putAt pd.puts (u : Int) = some (p.fl.getD u 0) := putAt_of h.p3 (by rw [← e1, ← e3]; exact hy)
    unfold putL lwPut
    rw [hput]
    dsimp only
    by_cases hz : p.fl.getD u 0 = 0
    · rw [if_pos hz, if_neg (by omega)]
    · rw [if_neg hz, if_pos (by omega), lput_eq, h.sg]
  rw [e2]
  refine flat_filter _ _ _ fun t ht hg => ?_
  unfold lwPut
  rw [if_neg fun hp => ?_]
  have := h.p2 t (List.mem_range.mp ht) hp
  exact (of_decide_eq_false hg) (List.mem_map.mpr ⟨_, this, rfl⟩)
theorem lrule_eq (m s t v n : Str) : lnRule m s t v n = Txt.join " " ["when", m, s, "leave", t, v, n] ++ ";" := by
  refine TL.ext_tl ?_
  unfold lnRule lnSeen lnDone
  rw [TL.tl_append (Txt.join _ _), TL.join_eq, TL.tl_join]
  simp only [TL.tl_append, List.map_cons, List.map_nil, TL.joinL, List.append_assoc]
  rfl
theorem like_canon {p : LP} {pd : PlanD} {ts : List Int} {rs : List (Nat × Nat)} (G : GoodLP 16 p) (h : Like p pd) (h1 : PutsOf pd ts) (h2 : RulesOf pd rs) : canonT pd ts rs = Txt.join "\n" (lawL p) := by
  unfold canonT
  congr 1
  unfold canonL lawL
  have hrs : rs = p.ru.map (·.1) := lexN_uniq h2.2 (ltN_lex G.up) (h2.1.trans (h.rl.map _))
  rw [puts_eq G h h1, h.rb, List.map_map, h.sz, h.sg, h.md, hrs, List.map_map]
  have e1 : [lnCor (p.fl.length : Int), lnSigns (Txt.join " " p.sg), lnMoods (Txt.join " " p.md)] = [lwCor (p.fl.length : Int), lwSigns (Txt.join " " p.sg), lwMoods (Txt.join " " p.md)] := by
    unfold lnCor lnSigns lnMoods lwCor lwSigns lwMoods
    rw [empty_app, empty_app, empty_app]
  have e2 : p.rb.map (robL ∘ fun r => ((r.1 : Int), if r.2 then 1 else 0)) = p.rb.map lwRob := List.map_congr_left fun r _ => lrob_eq r
  have e3 : p.ru.map (ruleL pd ∘ fun x => x.1) = p.ru.map (lwRule p) := by
    refine List.map_congr_left fun x hx => ?_
    show ruleL pd x.1 = lwRule p x
    have hx2 : x ∈ pd.rules := h.rl.mem_iff.mpr hx
    have hnd : (pd.rules.map (·.1)).Nodup := ((h.rl.map (·.1)).nodup_iff).mpr (ltN_nodup G.up)
    unfold ruleL
    rw [ruleAt_of hnd hx2, h.sg, h.md]
    exact lrule_eq _ _ _ _ _
  rw [e1, e2, e3]
theorem sg_ok {p : LP} (G : GoodLP 16 p) : ∀ z ∈ p.sg, PyData.strOk z = true := fun z hz => ok5 z (G.sg z hz)
theorem md_ok {p : LP} (G : GoodLP 16 p) : ∀ z ∈ p.md, PyData.strOk z = true := fun z hz => ok7 z (G.md z hz)
end Sw

/-! The whole of a plan's words. -/
namespace Sw
open PySem L2
def headW (p : LP) : List Str := [("corridor" : Str), nS (p.fl.length : Int), ";"] ++ (("signs" : Str) :: p.sg ++ [(";" : Str)]) ++ (("moods" : Str) :: p.md ++ [(";" : Str)])
def pd0 (p : LP) : PlanD := ⟨(p.fl.length : Int), p.sg, p.md, [], [], []⟩
theorem names_mt : ∀ (ns : List Str) (ws : List Str) (ts : List Tk), (∀ n ∈ ns, kd n = "name") → Mt ts (ns ++ (";" : Str) :: ws) → ∃ nt e r, namesOf ts = nt ∧ restOf ts = e :: r ∧ e.kind = ";" ∧ nt.map (·.text) = ns ∧ Mt r ws
  | [], ws, ts, _, h => by
    obtain ⟨t, r, rfl, k, _, h⟩ := mt_cons h
    rw [kd_semi] at k
    have hk : ¬ t.kind = "name" := by rw [k]; decide +kernel
    exact ⟨[], t, r, namesOf_neg hk, restOf_neg hk, k, rfl, h⟩
  | n :: ns, ws, ts, hn, h => by
    obtain ⟨t, r, rfl, k, x, h⟩ := mt_cons h
    rw [hn n (List.mem_cons_self ..)] at k
    obtain ⟨nt, e, r', h1, h2, h3, h4, h5⟩ := names_mt ns ws r (fun m hm => hn m (List.mem_cons_of_mem _ hm)) h
    exact ⟨t :: nt, e, r', by rw [namesOf_pos k, h1], by rw [restOf_pos k, h2], h3, by rw [List.map_cons, h4, x], h5⟩
theorem pnames_mt {kw : Str} {ns ws : List Str} {ts : List Tk} (hk : kw ∈ KWS) (hne : ns ≠ []) (hn : ∀ n ∈ ns, kd n = "name") (h : Mt ts (kw :: (ns ++ (";" : Str) :: ws))) :
    ∃ s r, pNames kw ts = some (s, r) ∧ s.word.kind = kw ∧ s.parts.map (·.text) = ns ∧ Mt r ws := by
  obtain ⟨w, r, rfl, k, _, h⟩ := mt_cons h
  rw [kd_kw kw hk] at k
  cases ns with
  | nil => exact absurd rfl hne
  | cons n ns =>
    obtain ⟨t, r, rfl, k1, x1, h⟩ := mt_cons h
    rw [hn n (List.mem_cons_self ..)] at k1
    obtain ⟨nt, e, r', h1, h2, h3, h4, h5⟩ := names_mt ns ws r (fun m hm => hn m (List.mem_cons_of_mem _ hm)) h
    refine ⟨⟨w, t :: nt⟩, r', ?_, k, by rw [List.map_cons, h4, x1], h5⟩
    unfold pNames
    dsimp only
    rw [if_pos ⟨k, k1⟩, h2]
    dsimp only
    rw [if_pos h3, h1]
theorem add_names {most : Nat} : ∀ (ts : List Tk) (ns : List Str), (ns ++ ts.map (·.text)).Nodup → (ns ++ ts.map (·.text)).length ≤ most → addNamesM most ns ts = some (ns ++ ts.map (·.text))
  | [], ns, _, _ => by unfold addNamesM; simp
  | t :: r, ns, hn, hl => by
    rw [List.map_cons] at hn hl ⊢
    have e : ns ++ t.text :: r.map (·.text) = (ns ++ [t.text]) ++ r.map (·.text) := by rw [List.append_assoc]; rfl
    have h1 : ¬ t.text ∈ ns := fun hm => by
      have := (List.nodup_append.mp hn).2.2 t.text hm t.text (List.mem_cons_self ..)
      exact this rfl
    have h2 : ns.length < most := by rw [List.length_append, List.length_cons] at hl; omega
    unfold addNamesM
    rw [if_neg h1, if_pos h2, e]
    exact add_names r _ (by rw [← e]; exact hn) (by rw [← e]; exact hl)
theorem parts_of_names {ts : List Tk} {ns : List Str} (h : ts.map (·.text) = ns) (h1 : ns.length ≤ 8) (h2 : ∀ n ∈ ns, n.length ≤ 8) : ts.length ≤ 1000 ∧ ∀ t ∈ ts, t.text.length ≤ 600 := by
  have hl := congrArg List.length h
  rw [List.length_map] at hl
  refine ⟨by omega, fun t ht => ?_⟩
  have := h2 t.text (by rw [← h]; exact List.mem_map.mpr ⟨t, ht, rfl⟩)
  omega
theorem parse_all {p : LP} (G : GoodLP 16 p) {t : Nat} {b : Bool} {abs : List Ab} {ts : List Tk} (ha : ∀ a ∈ Ab.rob t b :: abs, abOK p a) (hp : PreAll (pd0 p) (Ab.rob t b :: abs)) (h : Mt ts (headW p ++ (Ab.rob t b :: abs).flatMap (abW p))) :
    ∃ ss, parseM ts = some ss ∧ addAll PlanD.empty ss = some ((Ab.rob t b :: abs).foldl app (pd0 p)) ∧ (∀ s ∈ ss, PartsOK s) ∧ ss.length ≤ abs.length + 4 := by
  have f1 := G.f1
  have s1 := G.s1
  have m1 := G.m1
  have e : headW p ++ (Ab.rob t b :: abs).flatMap (abW p) = ("corridor" : Str) :: nS (p.fl.length : Int) :: (";" : Str) :: ("signs" : Str) :: (p.sg ++ (";" : Str) :: ("moods" : Str) :: (p.md ++ (";" : Str) :: (Ab.rob t b :: abs).flatMap (abW p))) := by
    unfold headW
    simp
  rw [e] at h
  obtain ⟨c0, r0, rfl, k0, x0, h⟩ := mt_cons h
  obtain ⟨c1, r1, rfl, k1, x1, h⟩ := mt_cons h
  obtain ⟨c2, r2, rfl, k2, x2, h⟩ := mt_cons h
  rw [kd_kw _ (by decide +kernel)] at k0
  rw [(num_ok _ (by omega)).1] at k1
  rw [kd_semi] at k2
  obtain ⟨sS, rS, g1, g2, g3, h⟩ := pnames_mt (by decide +kernel) (by intro q; rw [q] at s1; exact absurd s1.1 (by decide)) (fun n hn => kd_sg n (G.sg n hn)) h
  obtain ⟨sM, rM, g4, g5, g6, h⟩ := pnames_mt (by decide +kernel) (by intro q; rw [q] at m1; exact absurd m1.1 (by decide)) (fun n hn => kd_md n (G.md n hn)) h
  rw [List.flatMap_cons] at h
  have F0 : Fit p (pd0 p) := ⟨rfl, rfl, rfl⟩
  obtain ⟨sR, rR, g7, h7, g8, g9⟩ := step_ab G F0 (ha _ (List.mem_cons_self ..)) hp.1 h
  obtain ⟨ss, g10, g11, g12, g13⟩ := all_ab G abs (app (pd0 p) (.rob t b)) rR rR.length (Nat.le_refl _) (F0.app _) (fun a hm => ha a (List.mem_cons_of_mem _ hm)) hp.2 h7
  have gR : pRobot rM = some (sR, rR) := by
    obtain ⟨t0, rr, rfl, kk, _, _⟩ := mt_cons h
    rw [kd_kw _ (by decide +kernel)] at kk
    rw [← g7]
    unfold pStatement
    dsimp only
    rw [kk, if_neg (by decide +kernel), if_neg (by decide +kernel)]
  refine ⟨⟨c0, [c1]⟩ :: sS :: sM :: sR :: ss, ?_, ?_, ?_, by simp [g13]⟩
  · unfold parseM
    have gc : pCorridor (c0 :: c1 :: c2 :: r2) = some (⟨c0, [c1]⟩, r2) := by
      unfold pCorridor
      dsimp only
      rw [if_pos ⟨k0, k1, k2⟩]
    rw [gc]
    dsimp only
    rw [g1]
    dsimp only
    rw [g4]
    dsimp only
    rw [gR]
    dsimp only
    rw [g10]
    rfl
  · have a1 : addM PlanD.empty ⟨c0, [c1]⟩ = some { PlanD.empty with size := (p.fl.length : Int) } := by
      unfold addM
      dsimp only
      rw [k0, if_pos rfl, x1, (num_ok _ (by omega)).2]
      dsimp only
      rw [if_pos (by omega)]
    have a2 : addM { PlanD.empty with size := (p.fl.length : Int) } sS = some { PlanD.empty with size := (p.fl.length : Int), signs := p.sg } := by
      unfold addM
      rw [g2, if_neg (by decide +kernel), if_pos rfl, show ({ PlanD.empty with size := (p.fl.length : Int) } : PlanD).signs = [] from rfl, add_names _ _ (by rw [List.nil_append, g3]; exact G.sd) (by rw [List.nil_append, g3]; exact s1.2), List.nil_append, g3]
    have a3 : addM { PlanD.empty with size := (p.fl.length : Int), signs := p.sg } sM = some (pd0 p) := by
      unfold addM
      rw [g5, if_neg (by decide +kernel), if_neg (by decide +kernel), if_pos rfl, show ({ PlanD.empty with size := (p.fl.length : Int), signs := p.sg } : PlanD).moods = [] from rfl, add_names _ _ (by rw [List.nil_append, g6]; exact G.dd) (by rw [List.nil_append, g6]; omega), List.nil_append, g6]
      rfl
    unfold addAll
    rw [a1]
    dsimp only
    unfold addAll
    rw [a2]
    dsimp only
    unfold addAll
    rw [a3]
    dsimp only
    unfold addAll
    rw [g8]
    dsimp only
    exact g11
  · intro s hs
    rcases List.mem_cons.mp hs with rfl | hs
    · refine ⟨by show 1 ≤ 1000; decide, fun q hq => ?_⟩
      rw [List.mem_singleton.mp hq, x1]
      have := nS_len p.fl.length (by omega)
      omega
    · rcases List.mem_cons.mp hs with rfl | hs
      · exact parts_of_names g3 (by omega) (sg_len G)
      · rcases List.mem_cons.mp hs with rfl | hs
        · exact parts_of_names g6 (by omega) (md_len G)
        · rcases List.mem_cons.mp hs with rfl | hs
          · exact g9
          · exact g12 s hs
end Sw

/-! Lines, texts, and what is read of them. -/
namespace Sw
open PySem L2
def wokB (w : Str) : Bool := decide (kindOf w = some (kd w)) && (decide (w = ";") || (!(tl w).isEmpty && (tl w).all (inS LET)) || (!(tl w).isEmpty && (tl w).all (inS DIG)))
theorem wok_of {w : Str} (h : wokB w = true) : WOk w := by
  unfold wokB at h
  rw [Bool.and_eq_true, Bool.or_eq_true, Bool.or_eq_true, Bool.and_eq_true, Bool.and_eq_true] at h
  obtain ⟨h1, h2⟩ := h
  refine ⟨of_decide_eq_true h1, ?_⟩
  rcases h2 with (h2 | ⟨h2, h3⟩) | ⟨h2, h3⟩
  · exact .inl (of_decide_eq_true h2)
  · exact .inr (.inl ⟨by intro e; rw [e] at h2; exact absurd h2 (by decide), List.all_eq_true.mp h3⟩)
  · exact .inr (.inr ⟨by intro e; rw [e] at h2; exact absurd h2 (by decide), List.all_eq_true.mp h3⟩)
theorem wok_kw : ∀ w ∈ KWS, WOk w := fun w hw => wok_of ((show ∀ w ∈ KWS, wokB w = true by decide +kernel) w hw)
theorem wok_semi : WOk ";" := wok_of (by decide +kernel)
theorem wok_sg : ∀ w ∈ SG5, WOk w := fun w hw => wok_of ((show ∀ w ∈ SG5, wokB w = true by decide +kernel) w hw)
theorem wok_md : ∀ w ∈ MD7, WOk w := fun w hw => wok_of ((show ∀ w ∈ MD7, wokB w = true by decide +kernel) w hw)
theorem wok_num (t : Nat) (h : t ≤ 16) : WOk (nS (t : Int)) := by
  have : ∀ k : Fin 17, wokB (nS ((k.val : Nat) : Int)) = true := by decide +kernel
  exact wok_of (this ⟨t, by omega⟩)
theorem wok_side (b : Bool) : WOk (side b) := by cases b <;> exact wok_of (by decide +kernel)
theorem wok_mv : ∀ d : Nat, d < 3 → WOk (MOVESs.getD d Str.empty)
  | 0, _ => wok_of (by decide +kernel)
  | 1, _ => wok_of (by decide +kernel)
  | 2, _ => wok_of (by decide +kernel)
  | n + 3, h => by omega
def Piece (a : List Nat) (ws : List Str) : Prop := ∀ l us, Tx l us → Tx (a ++ l) (ws ++ us)
theorem piece_join : ∀ (ws : List Str), ws ≠ [] → (∀ w ∈ ws, WOk w) → Piece (TL.joinL [32] (ws.map tl) ++ [59]) (ws ++ [(";" : Str)])
  | [], h, _ => absurd rfl h
  | [w], _, h => fun l us t => by
    show Tx ((tl w ++ [59]) ++ l) (w :: ";" :: us)
    rw [List.append_assoc]
    exact .wd (h w (List.mem_cons_self ..)) (.inr (.inr ⟨59, _, rfl, .inr (.inr rfl)⟩)) (Tx.wd (w := ";") wok_semi (.inl rfl) t)
  | w :: v :: r, _, h => fun l us t => by
    have ih := piece_join (v :: r) (by simp) (fun x hx => h x (List.mem_cons_of_mem _ hx)) l us t
    show Tx ((tl w ++ ([32] ++ TL.joinL [32] ((v :: r).map tl)) ++ [59]) ++ l) (w :: ((v :: r ++ [(";" : Str)]) ++ us))
    rw [List.append_assoc, List.append_assoc, List.append_assoc]
    refine .wd (h w (List.mem_cons_self ..)) (.inr (.inr ⟨32, _, rfl, .inl rfl⟩)) ?_
    refine Tx.sp (.inl rfl) ?_
    rw [← List.append_assoc]
    exact ih
def abLine (p : LP) : Ab → Str
  | .rob t b => lwRob (t, b)
  | .put i t => lwPutS (p.sg.getD i Str.empty) t
  | .rule x => lwRule p x
theorem piece_of {z : Str} {ws : List Str} (h1 : ws ≠ []) (h2 : ∀ w ∈ ws, WOk w) (h3 : tl z = TL.joinL [32] (ws.map tl) ++ [59]) : Piece (tl z) (ws ++ [(";" : Str)]) := by
  rw [h3]; exact piece_join ws h1 h2
theorem kw_mem (w : Str) (h : w ∈ KWS) : WOk w := wok_kw w h
theorem piece_ab {p : LP} (G : GoodLP 16 p) {a : Ab} (h : abOK p a) : Piece (tl (abLine p a)) (abW p a) := by
  have f1 := G.f1
  cases a with
  | rob t b =>
    have ht : t < p.fl.length := h
    refine piece_of (ws := ["robot", nS (t : Int), side b]) (by simp) (fun w hw => ?_) ?_
    · simp only [List.mem_cons, List.not_mem_nil, or_false] at hw
      rcases hw with rfl | rfl | rfl
      · exact kw_mem _ (by decide +kernel)
      · exact wok_num t (by omega)
      · exact wok_side b
    · unfold abLine lwRob
      simp only [TL.tl_append, List.map_cons, List.map_nil, TL.joinL, List.append_assoc]
      cases b <;> rfl
  | put i t =>
    obtain ⟨hi, ht⟩ := h
    refine piece_of (ws := ["put", p.sg.getD i Str.empty, nS (t : Int)]) (by simp) (fun w hw => ?_) ?_
    · simp only [List.mem_cons, List.not_mem_nil, or_false] at hw
      rcases hw with rfl | rfl | rfl
      · exact kw_mem _ (by decide +kernel)
      · exact wok_sg _ (G.sg _ (getD_mem hi))
      · exact wok_num t (by omega)
    · unfold abLine lwPutS
      simp only [TL.tl_append, List.map_cons, List.map_nil, TL.joinL, List.append_assoc]
      rfl
  | rule x =>
    obtain ⟨h1, h2, h3, h4, h5⟩ := h
    refine piece_of (ws := lwWords p x) (by simp [lwWords]) (fun w hw => ?_) ?_
    · unfold lwWords at hw
      simp only [List.mem_cons, List.not_mem_nil, or_false] at hw
      rcases hw with rfl | rfl | rfl | rfl | rfl | rfl | rfl
      · exact kw_mem _ (by decide +kernel)
      · exact wok_md _ (G.md _ (getD_mem h1))
      · exact wok_sg _ (G.sg _ (getD_mem h2))
      · exact kw_mem _ (by decide +kernel)
      · exact wok_sg _ (G.sg _ (getD_mem h3))
      · exact wok_mv _ h4
      · exact wok_md _ (G.md _ (getD_mem h5))
    · unfold abLine lwRule
      rw [show tl (Txt.join " " (lwWords p x) ++ ";") = tl (Txt.join " " (lwWords p x)) ++ [59] from TL.tl_append _ _, show tl (Txt.join " " (lwWords p x)) = TL.joinL [32] ((lwWords p x).map tl) from by
        show TL.tl _ = _
        rw [TL.join_eq, TL.tl_join]
        rfl]
def headL (p : LP) : List Str := [lwCor (p.fl.length : Int), lwSigns (Txt.join " " p.sg), lwMoods (Txt.join " " p.md)]
theorem join_tl (y : Str) (l : List Str) : tl (Txt.join y l) = TL.joinL (tl y) (l.map tl) := by
  show TL.tl _ = _
  rw [TL.join_eq, TL.tl_join]
theorem joinL_cons (S a : List Nat) {l : List (List Nat)} (h : l ≠ []) : TL.joinL S (a :: l) = a ++ (S ++ TL.joinL S l) := by
  cases l with
  | nil => exact absurd rfl h
  | cons b r => rfl
theorem piece_names {kw : Str} {ns : List Str} {z : Str} (hk : WOk kw) (hne : ns ≠ []) (hn : ∀ n ∈ ns, WOk n) (hz : tl z = tl kw ++ ([32] ++ (TL.joinL [32] (ns.map tl) ++ [59]))) : Piece (tl z) (kw :: ns ++ [(";" : Str)]) := by
  refine piece_of (ws := kw :: ns) (by simp) (fun w hw => ?_) ?_
  · rcases List.mem_cons.mp hw with rfl | hw
    · exact hk
    · exact hn w hw
  · rw [hz, List.map_cons, joinL_cons _ _ (by simpa using hne)]
    simp
/-- lines that are pieces, with line feeds between them -/
theorem lines_tx : ∀ (L : List (Str × List Str)), (∀ x ∈ L, Piece (tl x.1) x.2) → Tx (TL.joinL [10] (L.map fun x => tl x.1)) (L.flatMap (·.2))
  | [], _ => .nil
  | [x], h => by
    have := h x (List.mem_cons_self ..) [] [] .nil
    rw [List.append_nil, List.append_nil] at this
    simpa [TL.joinL] using this
  | x :: y :: r, h => by
    have ih := lines_tx (y :: r) fun z hz => h z (List.mem_cons_of_mem _ hz)
    exact h x (List.mem_cons_self ..) _ _ (Tx.sp (.inr rfl) ih)
theorem text_tx {p : LP} (G : GoodLP 16 p) {abs : List Ab} (ha : ∀ a ∈ abs, abOK p a) : Tx (tl (Txt.join "\n" (headL p ++ abs.map (abLine p)))) (headW p ++ abs.flatMap (abW p)) := by
  have f1 := G.f1
  have s1 := G.s1
  have m1 := G.m1
  have h := lines_tx ([(lwCor (p.fl.length : Int), [("corridor" : Str), nS (p.fl.length : Int), ";"]), (lwSigns (Txt.join " " p.sg), ("signs" : Str) :: p.sg ++ [(";" : Str)]), (lwMoods (Txt.join " " p.md), ("moods" : Str) :: p.md ++ [(";" : Str)])] ++ abs.map fun a => (abLine p a, abW p a)) (fun x hx => by
    rcases List.mem_append.mp hx with hx | hx
    · simp only [List.mem_cons, List.not_mem_nil, or_false] at hx
      rcases hx with rfl | rfl | rfl
      · refine piece_of (ws := ["corridor", nS (p.fl.length : Int)]) (by simp) (fun w hw => ?_) ?_
        · simp only [List.mem_cons, List.not_mem_nil, or_false] at hw
          rcases hw with rfl | rfl
          · exact kw_mem _ (by decide +kernel)
          · exact wok_num _ (by omega)
        · show tl (lwCor _) = _
          unfold lwCor
          simp only [TL.tl_append, List.map_cons, List.map_nil, TL.joinL, List.append_assoc]
          rfl
      · refine piece_names (kw_mem _ (by decide +kernel)) (by intro q; rw [q] at s1; exact absurd s1.1 (by decide)) (fun n hn => wok_sg n (G.sg n hn)) ?_
        show tl (lwSigns _) = _
        unfold lwSigns
        rw [show tl (("signs " : Str) ++ Txt.join " " p.sg ++ ";") = (tl "signs " ++ tl (Txt.join " " p.sg)) ++ tl ";" from by
          show TL.tl _ = _
          rw [TL.tl_append, TL.tl_append], join_tl, List.append_assoc]
        rfl
      · refine piece_names (kw_mem _ (by decide +kernel)) (by intro q; rw [q] at m1; exact absurd m1.1 (by decide)) (fun n hn => wok_md n (G.md n hn)) ?_
        show tl (lwMoods _) = _
        unfold lwMoods
        rw [show tl (("moods " : Str) ++ Txt.join " " p.md ++ ";") = (tl "moods " ++ tl (Txt.join " " p.md)) ++ tl ";" from by
          show TL.tl _ = _
          rw [TL.tl_append, TL.tl_append], join_tl, List.append_assoc]
        rfl
    · obtain ⟨a, hm, rfl⟩ := List.mem_map.mp hx
      exact piece_ab G (ha a hm))
  rw [join_tl]
  rw [List.map_append, List.flatMap_append, List.map_map, List.flatMap_map] at h
  unfold headL headW
  rw [List.map_append, List.map_map]
  have e : (([("corridor" : Str), nS (p.fl.length : Int), ";"] ++ (("signs" : Str) :: p.sg ++ [(";" : Str)])) ++ (("moods" : Str) :: p.md ++ [(";" : Str)])) = List.flatMap (fun x : Str × List Str => x.2) [(lwCor (p.fl.length : Int), [("corridor" : Str), nS (p.fl.length : Int), ";"]), (lwSigns (Txt.join " " p.sg), ("signs" : Str) :: p.sg ++ [(";" : Str)]), (lwMoods (Txt.join " " p.md), ("moods" : Str) :: p.md ++ [(";" : Str)])] := by
    simp [List.flatMap_cons]
  rw [e]
  exact h
theorem tx_len {l : List Nat} {ws : List Str} (h : Tx l ws) : ws.length ≤ l.length := by
  induction h with
  | nil => exact Nat.le_refl _
  | sp _ _ ih => rw [List.length_cons]; omega
  | @wd w l ws h s t ih =>
    have : 0 < (tl w).length := by
      rcases h.c with rfl | ⟨h1, _⟩ | ⟨h1, _⟩
      · decide +kernel
      · exact List.length_pos_iff.mpr h1
      · exact List.length_pos_iff.mpr h1
    rw [List.length_cons, List.length_append]
    omega
theorem good_tx {p : LP} (G : GoodLP 16 p) {t : Nat} {b : Bool} {abs : List Ab} {z : Str} (ha : ∀ a ∈ Ab.rob t b :: abs, abOK p a) (hp : PreAll (pd0 p) (Ab.rob t b :: abs)) (hz : z.length ≤ 90000) (hn : abs.length ≤ 1000) (h : Tx (tl z) (headW p ++ (Ab.rob t b :: abs).flatMap (abW p))) :
    ∃ ts ss, Good z ((Ab.rob t b :: abs).foldl app (pd0 p)) ts ss := by
  obtain ⟨us, vs, h1, h2, h3⟩ := lex_tx h 0 0
  obtain ⟨ss, g1, g2, g3, g4⟩ := parse_all G ha hp h3
  have hlen : z.length = (tl z).length := TL.len_tl z
  have hr := rows_len (tl z)
  have hw := tx_len h
  have hm := congrArg List.length h3
  rw [List.length_map, List.length_map] at hm
  have hspl : TL.spl [10] 0 [] z.cps.toList = (rowsOf (tl z)).1 :: (rowsOf (tl z)).2 := by rw [spl_rows, List.nil_append]
  refine ⟨us ++ vs, ss, ⟨⟨hz, by omega, fun r hr' => ?_, ?_⟩, g1, g2, g3, by omega⟩⟩
  · rw [hspl] at hr'
    rcases List.mem_cons.mp hr' with rfl | hr'
    · omega
    · have := hr.2 r hr'; omega
  · rw [hspl]
    unfold lexRows
    rw [h1]
    dsimp only
    rw [h2]
    rfl
theorem sep_stop {s : Str} (hs : s ∈ SEP4) (l : List Nat) : Stop (tl s ++ l) := by
  have : ∀ s ∈ SEP4, ∃ c r, tl s = c :: r ∧ (c = 32 ∨ c = 10) := fun s hs => by
    unfold SEP4 at hs
    simp only [List.mem_cons, List.not_mem_nil, or_false] at hs
    rcases hs with rfl | rfl | rfl | rfl
    · exact ⟨32, [], rfl, .inl rfl⟩
    · exact ⟨32, [32], rfl, .inl rfl⟩
    · exact ⟨10, [], rfl, .inr rfl⟩
    · exact ⟨10, [32], rfl, .inr rfl⟩
  obtain ⟨c, r, e, h⟩ := this s hs
  rw [e]
  exact .inr ⟨c, _, rfl, by omega⟩
theorem sep_tx {s : Str} (hs : s ∈ SEP4) {l : List Nat} {us : List Str} (t : Tx l us) : Tx (tl s ++ l) us := by
  unfold SEP4 at hs
  simp only [List.mem_cons, List.not_mem_nil, or_false] at hs
  rcases hs with rfl | rfl | rfl | rfl
  · exact .sp (.inl rfl) t
  · exact .sp (.inl rfl) (.sp (.inl rfl) t)
  · exact .sp (.inr rfl) t
  · exact .sp (.inr rfl) (.sp (.inl rfl) t)
theorem spaced_tx {ws : List Str} {z : Str} (h : Spaced ws z) : (∀ w ∈ ws, WOk w) → ∀ l us, Stop l → Tx l us → Tx (tl z ++ l) (ws ++ us) := by
  induction h with
  | nil => exact fun _ l us _ t => t
  | @snoc ws z s w h hs ih =>
    intro hw l us hl t
    have e : tl ((z ++ s) ++ w) = tl z ++ (tl s ++ tl w) := by
      show TL.tl _ = _
      rw [TL.tl_append, TL.tl_append, List.append_assoc]
    rw [e, List.append_assoc, List.append_assoc, List.append_assoc]
    refine ih (fun x hx => hw x (List.mem_append_left _ hx)) _ _ (sep_stop hs _) ?_
    exact sep_tx hs (.wd (hw w (by simp)) (.inr hl) t)
theorem tx_wok {l : List Nat} {ws : List Str} (h : Tx l ws) : ∀ w ∈ ws, WOk w := by
  induction h with
  | nil => exact fun w hw => by cases hw
  | sp _ _ ih => exact ih
  | wd h _ _ ih =>
    intro x hx
    rcases List.mem_cons.mp hx with rfl | hx
    · exact h
    · exact ih x hx
theorem map_tl_inj : ∀ {a b : List Str}, a.map tl = b.map tl → a = b
  | [], [], _ => rfl
  | [], _ :: _, h => by cases h
  | _ :: _, [], h => by cases h
  | x :: a, y :: b, h => by
    rw [List.map_cons, List.map_cons, List.cons.injEq] at h
    rw [TL.ext_tl h.1, map_tl_inj h.2]
theorem words_of {T : Str} {ws : List Str} (h : Tx (tl T) ws) : Txt.words (Txt.replace T ";" " ; ") = ws := by
  refine map_tl_inj ?_
  have e : (Txt.words (Txt.replace T ";" " ; ")).map TL.tl = TL.wfin ((TL.tl (Txt.replace T ";" " ; ")).foldl TL.wstep ([], [])) := TL.words_tl _
  have e2 : TL.tl (Txt.replace T ";" " ; ") = rep (tl T) := by
    have := PySem.StrLaws.replace_list (x := T) (y := ";") (z := " ; ") (by decide +kernel)
    rw [← replL_rep]
    exact this
  rw [e2, words_tx h [] [] (.inl rfl)] at e
  simpa using e
/-- the words of a text again, with other gaps -/
theorem spaced_good {T z : Str} {ws : List Str} (h : Tx (tl T) ws) (hz : Spaced (Txt.words (Txt.replace T ";" " ; ")) z) : Tx (tl z) ws := by
  rw [words_of h] at hz
  have := spaced_tx hz (tx_wok h) [] [] (.inl rfl) .nil
  rwa [List.append_nil, List.append_nil] at this
end Sw

/-! The two drawn texts are read as plans like the drawn one. -/
namespace Sw
open PySem L2
def gRob : Ab → Option (Int × Nat)
  | .rob t b => some ((t : Int), if b then 1 else 0)
  | _ => none
def gPut : Ab → Option (Int × Nat)
  | .put i t => some ((t : Int), i)
  | _ => none
def gRule : Ab → Option ((Nat × Nat) × Nat × Nat × Nat)
  | .rule x => some x
  | _ => none
def robsOf (abs : List Ab) : List (Int × Nat) := abs.filterMap gRob
def putsOfA (abs : List Ab) : List (Int × Nat) := abs.filterMap gPut
def rulesOfA (abs : List Ab) : List ((Nat × Nat) × Nat × Nat × Nat) := abs.filterMap gRule
theorem fold_app : ∀ (abs : List Ab) (pd : PlanD), abs.foldl app pd = { pd with robots := pd.robots ++ robsOf abs, puts := pd.puts ++ putsOfA abs, rules := pd.rules ++ rulesOfA abs }
  | [], pd => by simp [robsOf, putsOfA, rulesOfA]
  | a :: r, pd => by
    rw [List.foldl_cons, fold_app r]
    cases a <;> simp [app, robsOf, putsOfA, rulesOfA, gRob, gPut, gRule] <;> exact ⟨rfl, rfl⟩
theorem pre_all : ∀ (abs : List Ab) (pd : PlanD), pd.robots.length + (robsOf abs).length ≤ 3 → ((pd.puts ++ putsOfA abs).map (·.1)).Nodup → ((pd.rules ++ rulesOfA abs).map (·.1)).Nodup → PreAll pd abs
  | [], _, _, _, _ => trivial
  | a :: r, pd, h1, h2, h3 => by
    cases a with
    | rob t b =>
      have e : robsOf (.rob t b :: r) = ((t : Int), if b then 1 else 0) :: robsOf r := rfl
      rw [e, List.length_cons] at h1
      exact ⟨by show pd.robots.length < 3; omega, pre_all r _ (by show (pd.robots ++ [_]).length + _ ≤ 3; rw [List.length_append]; show _ + 1 + _ ≤ 3; omega) h2 h3⟩
    | put i t =>
      have e : putsOfA (.put i t :: r) = ((t : Int), i) :: putsOfA r := rfl
      rw [e] at h2
      refine ⟨fun hm => ?_, pre_all r _ h1 (by show (((pd.puts ++ [_]) ++ _).map _).Nodup; rw [List.append_assoc]; exact h2) h3⟩
      rw [List.map_append, List.map_cons] at h2
      exact (List.nodup_append.mp h2).2.2 _ hm _ (List.mem_cons_self ..) rfl
    | rule x =>
      have e : rulesOfA (.rule x :: r) = x :: rulesOfA r := rfl
      rw [e] at h3
      refine ⟨fun hm => ?_, pre_all r _ h1 h2 (by show (((pd.rules ++ [_]) ++ _).map _).Nodup; rw [List.append_assoc]; exact h3)⟩
      rw [List.map_append, List.map_cons] at h3
      exact (List.nodup_append.mp h3).2.2 _ hm _ (List.mem_cons_self ..) rfl
def robA (p : LP) : List Ab := p.rb.map fun r => .rob r.1 r.2
def putA (p : LP) : List Ab := ((List.range p.fl.length).filter fun t => decide (0 < p.fl.getD t 0)).map fun t => .put (p.fl.getD t 0) t
def ruA (p : LP) : List Ab := p.ru.map .rule
theorem lawL_abs (p : LP) : lawL p = headL p ++ (robA p ++ putA p ++ ruA p).map (abLine p) := by
  unfold lawL headL robA putA ruA
  rw [List.map_append, List.map_append, List.map_map, List.map_map, List.map_map, ← List.append_assoc, ← List.append_assoc]
  have e : ∀ l : List Nat, l.flatMap (lwPut p) = (l.filter fun t => decide (0 < p.fl.getD t 0)).map (abLine p ∘ fun t => Ab.put (p.fl.getD t 0) t) := by
    intro l
    induction l with
    | nil => rfl
    | cons t r ih =>
      rw [List.flatMap_cons, ih]
      unfold lwPut
      by_cases h : 0 < p.fl.getD t 0
      · rw [if_pos h, List.filter_cons, if_pos (decide_eq_true h), List.map_cons]
        rfl
      · rw [if_neg h, List.filter_cons, if_neg (by rw [decide_eq_false h]; decide)]
        rfl
  rw [e]
  rfl
theorem ab_ok {p : LP} (G : GoodLP 16 p) : ∀ a ∈ robA p ++ putA p ++ ruA p, abOK p a := by
  intro a ha
  rcases List.mem_append.mp ha with ha | ha
  · rcases List.mem_append.mp ha with ha | ha
    · obtain ⟨r, hr, rfl⟩ := List.mem_map.mp ha
      exact G.rb r hr
    · obtain ⟨t, ht, rfl⟩ := List.mem_map.mp ha
      have := List.mem_range.mp (List.mem_filter.mp ht).1
      exact ⟨fl_lt G this, this⟩
  · obtain ⟨x, hx, rfl⟩ := List.mem_map.mp ha
    exact G.ru x hx
theorem robs_rob (l : List (Nat × Bool)) : robsOf (l.map fun r => .rob r.1 r.2) = l.map fun r => ((r.1 : Int), if r.2 then 1 else 0) := by
  induction l with
  | nil => rfl
  | cons x r ih => rw [List.map_cons, List.map_cons, ← ih]; rfl
theorem none_rob (l : List (Nat × Bool)) : putsOfA (l.map fun r => .rob r.1 r.2) = [] ∧ rulesOfA (l.map fun r => .rob r.1 r.2) = [] := by
  induction l with
  | nil => exact ⟨rfl, rfl⟩
  | cons x r ih => exact ih
theorem puts_put (l : List (Nat × Nat)) : putsOfA (l.map fun x => .put x.1 x.2) = (l.map fun x => ((x.2 : Int), x.1)) ∧ robsOf (l.map fun x => .put x.1 x.2) = [] ∧ rulesOfA (l.map fun x => .put x.1 x.2) = [] := by
  induction l with
  | nil => exact ⟨rfl, rfl, rfl⟩
  | cons x r ih => exact ⟨by rw [List.map_cons, List.map_cons, ← ih.1]; rfl, ih.2⟩
theorem rules_rule (l : List ((Nat × Nat) × Nat × Nat × Nat)) : rulesOfA (l.map .rule) = l ∧ robsOf (l.map .rule) = [] ∧ putsOfA (l.map .rule) = [] := by
  induction l with
  | nil => exact ⟨rfl, rfl, rfl⟩
  | cons x r ih => exact ⟨by rw [List.map_cons]; show x :: rulesOfA (r.map .rule) = _; rw [ih.1], ih.2⟩
theorem robs_app (a b : List Ab) : robsOf (a ++ b) = robsOf a ++ robsOf b := List.filterMap_append ..
theorem puts_app (a b : List Ab) : putsOfA (a ++ b) = putsOfA a ++ putsOfA b := List.filterMap_append ..
theorem rules_app (a b : List Ab) : rulesOfA (a ++ b) = rulesOfA a ++ rulesOfA b := List.filterMap_append ..
/-- what is asked of statements in any order -/
structure Abs (p : LP) (abs : List Ab) : Prop where
  ok : ∀ a ∈ abs, abOK p a
  rb : robsOf abs = p.rb.map fun r => ((r.1 : Int), if r.2 then 1 else 0)
  p1 : ∀ x ∈ putsOfA abs, ∃ t : Nat, x.1 = (t : Int) ∧ t < p.fl.length ∧ x.2 = p.fl.getD t 0
  p2 : ∀ t : Nat, t < p.fl.length → 0 < p.fl.getD t 0 → ((t : Int), p.fl.getD t 0) ∈ putsOfA abs
  p3 : ((putsOfA abs).map (·.1)).Nodup
  rl : (rulesOfA abs).Perm p.ru
  n : abs.length ≤ 900
theorem abs_good {p : LP} (G : GoodLP 16 p) {t : Nat} {b : Bool} {abs : List Ab} (h : Abs p (.rob t b :: abs)) {z : Str} (hz : z.length ≤ 90000) (tx : Tx (tl z) (headW p ++ (Ab.rob t b :: abs).flatMap (abW p))) : ∃ pd ts ss, Good z pd ts ss ∧ Like p pd := by
  have hpre : PreAll (pd0 p) (Ab.rob t b :: abs) := pre_all _ _ (by rw [h.rb, List.length_map]; show 0 + _ ≤ 3; have := G.r1; omega) (by show (([] ++ _).map _).Nodup; rw [List.nil_append]; exact h.p3)
    (by show (([] ++ _).map _).Nodup; rw [List.nil_append]; exact ((h.rl.map (·.1)).nodup_iff).mpr (ltN_nodup G.up))
  obtain ⟨ts, ss, g⟩ := good_tx G h.ok hpre hz (by have := h.n; rw [List.length_cons] at this; omega) tx
  refine ⟨_, ts, ss, g, ?_⟩
  rw [fold_app]
  exact ⟨rfl, rfl, rfl, by show [] ++ _ = _; rw [List.nil_append]; exact h.rb, by show ∀ x ∈ [] ++ _, _; rw [List.nil_append]; exact h.p1, by show ∀ t : Nat, _ → _ → _ ∈ [] ++ _; rw [List.nil_append]; exact h.p2, by show (([] ++ _).map _).Nodup; rw [List.nil_append]; exact h.p3, by show ([] ++ _).Perm _; rw [List.nil_append]; exact h.rl⟩
theorem put_nodup (p : LP) : ((((List.range p.fl.length).filter fun t => decide (0 < p.fl.getD t 0)).map fun t => (p.fl.getD t 0, t)).map fun x => ((x.2 : Int), x.1)).map (·.1) = ((List.range p.fl.length).filter fun t => decide (0 < p.fl.getD t 0)).map fun (t : Nat) => (t : Int) := by
  rw [List.map_map, List.map_map]; rfl
theorem putA_puts (p : LP) : putsOfA (putA p) = (((List.range p.fl.length).filter fun t => decide (0 < p.fl.getD t 0)).map fun (t : Nat) => ((t : Int), p.fl.getD t 0)) ∧ robsOf (putA p) = [] ∧ rulesOfA (putA p) = [] := by
  have h := puts_put (((List.range p.fl.length).filter fun t => decide (0 < p.fl.getD t 0)).map fun t => (p.fl.getD t 0, t))
  rw [List.map_map, List.map_map] at h
  exact h
theorem absC_abs {p : LP} (G : GoodLP 16 p) : Abs p (robA p ++ putA p ++ ruA p) := by
  have hp := putA_puts p
  have hr := rules_rule p.ru
  have hb := none_rob p.rb
  have e1 : putsOfA (robA p ++ putA p ++ ruA p) = putsOfA (putA p) := by
    rw [puts_app, puts_app, show putsOfA (robA p) = [] from hb.1, show putsOfA (ruA p) = [] from hr.2.2, List.nil_append, List.append_nil]
  refine ⟨ab_ok G, ?_, fun x hx => ?_, fun t ht hz => ?_, ?_, ?_, ?_⟩
  · rw [robs_app, robs_app, hp.2.1, show robsOf (ruA p) = [] from hr.2.1, List.append_nil, List.append_nil]
    exact robs_rob p.rb
  · rw [e1, hp.1] at hx
    obtain ⟨t, ht, rfl⟩ := List.mem_map.mp hx
    exact ⟨t, rfl, List.mem_range.mp (List.mem_filter.mp ht).1, rfl⟩
  · rw [e1, hp.1]
    exact List.mem_map.mpr ⟨t, List.mem_filter.mpr ⟨List.mem_range.mpr ht, decide_eq_true hz⟩, rfl⟩
  · rw [e1, hp.1, List.map_map]
    exact List.pairwise_map.mpr (List.Pairwise.filter _ (List.nodup_range.imp fun {a b} q e => q (Int.ofNat.inj e)))
  · rw [rules_app, rules_app, show rulesOfA (robA p) = [] from hb.2, hp.2.2, show rulesOfA (ruA p) = p.ru from hr.1]
    exact .refl _
  · have f1 := G.f1
    have r1 := G.r1
    have ul := G.ul
    unfold robA putA ruA
    rw [List.length_append, List.length_append, List.length_map, List.length_map, List.length_map]
    have := List.length_filter_le (fun t => decide (0 < p.fl.getD t 0)) (List.range p.fl.length)
    rw [List.length_range] at this
    omega
theorem text_len {p : LP} (G : GoodLP 16 p) : (Txt.join "\n" (lawL p)).length ≤ 90000 := by
  have h1 := join_len "\n" (lawL p)
  have h2 := sum_le _ (lawL_small G)
  have h3 := lawL_count G
  rw [show ("\n" : Str).length = 1 from by decide +kernel, Nat.mul_one] at h1
  omega
theorem good_text {p : LP} (G : GoodLP 16 p) : ∃ pd ts ss, Good (Txt.join "\n" (lawL p)) pd ts ss ∧ Like p pd := by
  have hA := absC_abs G
  have r1 := G.r1
  cases hr : p.rb with
  | nil => rw [hr] at r1; exact absurd r1.1 (by decide)
  | cons x r =>
    have e : robA p ++ putA p ++ ruA p = Ab.rob x.1 x.2 :: (r.map (fun r => .rob r.1 r.2) ++ putA p ++ ruA p) := by unfold robA; rw [hr]; rfl
    have tx := text_tx G hA.ok
    rw [← lawL_abs] at tx
    rw [e] at hA tx
    exact abs_good G hA (text_len G) tx
end Sw

/-! The loose text. -/
namespace Sw
open PySem L2
theorem cut6 (z : Str) : tl (cutS z none (some 6)) = (tl z).take 6 := by
  unfold cutS
  rw [HT.sIx_none, show (some (6 : Int)) = some ((6 : Nat) : Int) from rfl, HT.sIx_nat, List.drop_zero, Nat.sub_zero]
  show (tl z).take (min 6 z.length) = _
  rw [show z.length = (tl z).length from TL.len_tl z]
  rcases Nat.le_total 6 (tl z).length with h | h
  · rw [Nat.min_eq_left h]
  · rw [Nat.min_eq_right h, List.take_length, List.take_of_length_le h]
theorem isRob_no {z : Str} {c : Nat} {r : List Nat} (e : tl z = c :: r) (h : c ≠ 114) : isRob z = false := by
  unfold isRob
  refine decide_eq_false fun q => ?_
  have h1 := congrArg tl q
  rw [cut6, e] at h1
  have h2 : (c :: r).take 6 = c :: r.take 5 := rfl
  rw [h2] at h1
  exact h (List.cons.inj h1).1
theorem isRob_yes {z : Str} {r : List Nat} (e : tl z = tl "robot " ++ r) : isRob z = true := by
  unfold isRob
  refine decide_eq_true (TL.ext_tl ?_)
  show tl (cutS z none (some 6)) = tl "robot "
  rw [cut6, e, List.take_append_of_le_length (by decide +kernel)]
  rfl
theorem lit_tl {z a : Str} {y : List Nat} {c : Nat} {r : List Nat} (h : tl z = tl a ++ y) (ha : tl a = c :: r) : tl z = c :: (r ++ y) := by rw [h, ha]; rfl
theorem app_tl (a b : Str) : tl (a ++ b) = tl a ++ tl b := TL.tl_append a b
theorem isRob_ab (p : LP) : ∀ a : Ab, isRob (abLine p a) = match a with | .rob _ _ => true | _ => false
  | .rob t b => by
    refine isRob_yes (r := tl (nS (t : Int)) ++ tl (if b then (" right;" : Str) else " left;")) ?_
    show tl (lwRob (t, b)) = _
    unfold lwRob
    rw [app_tl, app_tl, List.append_assoc]
  | .put i t => by
    refine isRob_no (c := 112) (r := [117, 116, 32] ++ (tl (p.sg.getD i Str.empty) ++ (tl " " ++ (tl (nS (t : Int)) ++ tl ";")))) ?_ (by decide)
    show tl (lwPutS _ t) = _
    unfold lwPutS
    rw [app_tl, app_tl, app_tl, app_tl, List.append_assoc, List.append_assoc, List.append_assoc]
    rfl
  | .rule x => by
    refine isRob_no (c := 119) (r := [104, 101, 110] ++ ([32] ++ TL.joinL [32] ((lwWords p x).tail.map tl)) ++ [59]) ?_ (by decide)
    show tl (lwRule p x) = _
    unfold lwRule
    rw [app_tl, join_tl]
    rfl
theorem isRob_head (p : LP) : ∀ z ∈ headL p, isRob z = false := by
  intro z hz
  unfold headL at hz
  simp only [List.mem_cons, List.not_mem_nil, or_false] at hz
  rcases hz with rfl | rfl | rfl
  · refine isRob_no (c := 99) (r := [111, 114, 114, 105, 100, 111, 114, 32] ++ (tl (nS (p.fl.length : Int)) ++ tl ";")) ?_ (by decide)
    unfold lwCor
    rw [app_tl, app_tl, List.append_assoc]
    rfl
  · refine isRob_no (c := 115) (r := [105, 103, 110, 115, 32] ++ (tl (Txt.join " " p.sg) ++ tl ";")) ?_ (by decide)
    unfold lwSigns
    rw [app_tl, app_tl, List.append_assoc]
    rfl
  · refine isRob_no (c := 109) (r := [111, 111, 100, 115, 32] ++ (tl (Txt.join " " p.md) ++ tl ";")) ?_ (by decide)
    unfold lwMoods
    rw [app_tl, app_tl, List.append_assoc]
    rfl
theorem filter_none {α : Type} {f : α → Bool} : ∀ {l : List α}, (∀ x ∈ l, f x = false) → l.filter f = []
  | [], _ => rfl
  | x :: r, h => by rw [List.filter_cons, if_neg (by rw [h x (List.mem_cons_self ..)]; decide)]; exact filter_none fun y hy => h y (List.mem_cons_of_mem _ hy)
theorem filter_all {α : Type} {f : α → Bool} : ∀ {l : List α}, (∀ x ∈ l, f x = true) → l.filter f = l
  | [], _ => rfl
  | x :: r, h => by rw [List.filter_cons, if_pos (h x (List.mem_cons_self ..)), filter_all fun y hy => h y (List.mem_cons_of_mem _ hy)]
theorem rob_lines (p : LP) : ∀ z ∈ (robA p).map (abLine p), isRob z = true := fun z hz => by
  obtain ⟨a, ha, rfl⟩ := List.mem_map.mp hz
  obtain ⟨r, _, rfl⟩ := List.mem_map.mp ha
  rw [isRob_ab]
theorem oth_lines (p : LP) : ∀ z ∈ (putA p ++ ruA p).map (abLine p), isRob z = false := fun z hz => by
  obtain ⟨a, ha, rfl⟩ := List.mem_map.mp hz
  rcases List.mem_append.mp ha with ha | ha
  · obtain ⟨r, _, rfl⟩ := List.mem_map.mp ha
    rw [isRob_ab]
  · obtain ⟨r, _, rfl⟩ := List.mem_map.mp ha
    rw [isRob_ab]
theorem robL_eq (p : LP) : robL' p = (robA p).map (abLine p) := by
  unfold robL'
  rw [lawL_abs, List.append_assoc, List.map_append, List.filter_append, List.filter_append, filter_none (isRob_head p), filter_all (rob_lines p), filter_none (oth_lines p), List.nil_append, List.append_nil]
theorem othL_eq (p : LP) : othL p = (putA p ++ ruA p).map (abLine p) := by
  unfold othL
  rw [lawL_abs, show (headL p ++ (robA p ++ putA p ++ ruA p).map (abLine p)).drop 3 = (robA p ++ putA p ++ ruA p).map (abLine p) from rfl, List.append_assoc, List.map_append, List.filter_append, filter_none (fun z hz => by rw [rob_lines p z hz]; rfl), filter_all (fun z hz => by rw [oth_lines p z hz]; rfl), List.nil_append]
theorem head_eq (p : LP) : (lawL p).take 3 = headL p := by rw [lawL_abs]; rfl
/-- a line, or none where a robot's comes -/
def lnO (p : LP) : Option Ab → Str
  | some a => abLine p a
  | none => Str.empty
theorem ab_ne (p : LP) : ∀ a : Ab, abLine p a ≠ Str.empty := by
  intro a e
  have h := congrArg (fun z : Str => (tl z).length) e
  cases a with
  | rob t b =>
    dsimp only [abLine, lwRob] at h
    rw [app_tl, app_tl, List.length_append, List.length_append, show (tl "robot ").length = 6 from rfl] at h
    exact absurd (h.trans (show (tl Str.empty).length = 0 from rfl)) (by omega)
  | put i t =>
    dsimp only [abLine, lwPutS] at h
    rw [app_tl, app_tl, app_tl, app_tl, List.length_append, List.length_append, List.length_append, List.length_append, show (tl "put ").length = 4 from rfl] at h
    exact absurd (h.trans (show (tl Str.empty).length = 0 from rfl)) (by omega)
  | rule x =>
    dsimp only [abLine, lwRule] at h
    rw [app_tl, List.length_append, show (tl ";").length = 1 from rfl] at h
    exact absurd (h.trans (show (tl Str.empty).length = 0 from rfl)) (by omega)
theorem perm_map {α β : Type} {f : α → β} {l : List β} {m : List β} (h : l.Perm m) : ∀ {k : List α}, m = k.map f → ∃ k' : List α, k'.Perm k ∧ l = k'.map f := by
  induction h with
  | nil =>
    intro k e
    exact ⟨k, .refl _, e⟩
  | @cons x l1 l2 _ ih =>
    intro k e
    cases k with
    | nil => cases e
    | cons y k =>
      rw [List.map_cons, List.cons.injEq] at e
      obtain ⟨k', h1, h2⟩ := ih e.2
      exact ⟨y :: k', h1.cons y, by rw [List.map_cons, e.1, h2]⟩
  | swap x y l1 =>
    intro k e
    cases k with
    | nil => cases e
    | cons a k =>
      cases k with
      | nil => cases (List.cons.inj e).2
      | cons b k =>
        rw [List.map_cons, List.map_cons, List.cons.injEq, List.cons.injEq] at e
        exact ⟨b :: a :: k, .swap _ _ _, by rw [List.map_cons, List.map_cons, ← e.1, ← e.2.1, ← e.2.2]⟩
  | trans _ _ ih1 ih2 =>
    intro k e
    obtain ⟨k1, h1, h2⟩ := ih2 e
    obtain ⟨k2, h3, h4⟩ := ih1 h2
    exact ⟨k2, h3.trans h1, h4⟩
def fillR : List Ab → List (Option Ab) → List Ab
  | _, [] => []
  | r :: rs, none :: t => r :: fillR rs t
  | [], none :: t => fillR [] t
  | rs, some a :: t => a :: fillR rs t
theorem fillR_some (rs : List Ab) (a : Ab) (t : List (Option Ab)) : fillR rs (some a :: t) = a :: fillR rs t := by cases rs <;> rfl
theorem fill_skip {x : Str} (h : x ≠ Str.empty) : ∀ (rs l : List Str), fillM rs (x :: l) = x :: fillM rs l
  | [], _ => rfl
  | r :: rs, l => by
    unfold fillM
    rw [idxOf_neg h, List.set_cons_succ]
    exact fill_skip h rs _
theorem fill_eq (p : LP) : ∀ (los : List (Option Ab)) (rs : List Ab), los.count none = rs.length → fillM (rs.map (abLine p)) (los.map (lnO p)) = (fillR rs los).map (abLine p)
  | [], rs, h => by
    cases rs with
    | nil => rfl
    | cons r rs => cases h
  | some a :: t, rs, h => by
    rw [List.count_cons_of_ne (by intro q; cases q)] at h
    rw [fillR_some, List.map_cons, List.map_cons]
    show fillM _ (abLine p a :: _) = _
    rw [fill_skip (ab_ne p a), fill_eq p t rs h]
  | none :: t, rs, h => by
    cases rs with
    | nil => rw [List.count_cons_self] at h; cases h
    | cons r rs =>
      rw [List.count_cons_self, List.length_cons] at h
      show fillM (abLine p r :: rs.map (abLine p)) (Str.empty :: t.map (lnO p)) = abLine p r :: (fillR rs t).map (abLine p)
      rw [← fill_eq p t rs (Nat.succ.inj h), ← fill_skip (ab_ne p r)]
      unfold fillM
      rw [idxOf_pos rfl, List.set_cons_zero]
      cases rs <;> rfl
theorem fillR_of {β : Type} (g : Ab → Option β) : ∀ (los : List (Option Ab)) (rs : List Ab), los.count none = rs.length → (∀ r ∈ rs, g r = none) → (fillR rs los).filterMap g = los.filterMap (fun o => o.bind g)
  | [], rs, _, _ => by cases rs <;> rfl
  | some a :: t, rs, h, hg => by
    rw [List.count_cons_of_ne (by intro q; cases q)] at h
    rw [fillR_some, List.filterMap_cons, List.filterMap_cons, fillR_of g t rs h hg]
    rfl
  | none :: t, rs, h, hg => by
    cases rs with
    | nil => rw [List.count_cons_self] at h; cases h
    | cons r rs =>
      rw [List.count_cons_self, List.length_cons] at h
      show (r :: fillR rs t).filterMap g = _
      rw [List.filterMap_cons, hg r (List.mem_cons_self ..), List.filterMap_cons]
      exact fillR_of g t rs (Nat.succ.inj h) fun x hx => hg x (List.mem_cons_of_mem _ hx)
theorem fillR_rob {β : Type} (g : Ab → Option β) : ∀ (los : List (Option Ab)) (rs : List Ab), los.count none = rs.length → (∀ a, some a ∈ los → g a = none) → (fillR rs los).filterMap g = rs.filterMap g
  | [], rs, h, _ => by
    cases rs with
    | nil => rfl
    | cons r rs => cases h
  | some a :: t, rs, h, hg => by
    rw [List.count_cons_of_ne (by intro q; cases q)] at h
    rw [fillR_some, List.filterMap_cons, hg a (List.mem_cons_self ..)]
    exact fillR_rob g t rs h fun x hx => hg x (List.mem_cons_of_mem _ hx)
  | none :: t, rs, h, hg => by
    cases rs with
    | nil => rw [List.count_cons_self] at h; cases h
    | cons r rs =>
      rw [List.count_cons_self, List.length_cons] at h
      show (r :: fillR rs t).filterMap g = _
      rw [List.filterMap_cons, List.filterMap_cons, fillR_rob g t rs (Nat.succ.inj h) fun x hx => hg x (List.mem_cons_of_mem _ hx)]
theorem fillR_mem : ∀ (los : List (Option Ab)) (rs : List Ab), ∀ a ∈ fillR rs los, a ∈ rs ∨ some a ∈ los
  | [], rs, a, h => by cases rs <;> cases h
  | some b :: t, rs, a, h => by
    rw [fillR_some] at h
    rcases List.mem_cons.mp h with rfl | h
    · exact .inr (List.mem_cons_self ..)
    · exact (fillR_mem t rs a h).imp id (List.mem_cons_of_mem _)
  | none :: t, [], a, h => (fillR_mem t [] a h).imp id (List.mem_cons_of_mem _)
  | none :: t, r :: rs, a, h => by
    rcases List.mem_cons.mp (show a ∈ r :: fillR rs t from h) with rfl | h
    · exact .inl (List.mem_cons_self ..)
    · exact (fillR_mem t rs a h).imp (List.mem_cons_of_mem _) (List.mem_cons_of_mem _)
theorem fillR_len : ∀ (los : List (Option Ab)) (rs : List Ab), (fillR rs los).length ≤ los.length
  | [], rs => by cases rs <;> exact Nat.le_refl _
  | some b :: t, rs => by rw [fillR_some]; exact Nat.succ_le_succ (fillR_len t rs)
  | none :: t, [] => Nat.le_succ_of_le (fillR_len t [])
  | none :: t, r :: rs => Nat.succ_le_succ (fillR_len t rs)
end Sw

/-! The loose text is read as a plan like the drawn one. -/
namespace Sw
open PySem L2
def zA (p : LP) : List Ab := (clrL p).map fun k => .put 0 k
theorem looseSet_eq (p : LP) : looseSet p = ((putA p ++ ruA p ++ zA p).map some ++ List.replicate (p.rb.length - 1) none).map (lnO p) := by
  have e : (clrL p).map (zput p) = (zA p).map (abLine p) := by unfold zA; rw [List.map_map]; rfl
  have e2 : ((putA p ++ ruA p ++ zA p).map some ++ List.replicate (p.rb.length - 1) none).map (lnO p) = (putA p ++ ruA p ++ zA p).map (abLine p) ++ List.replicate (p.rb.length - 1) Str.empty := by
    rw [List.map_append, List.map_map, List.map_replicate]
    rfl
  unfold looseSet
  rw [e2, othL_eq, robL_eq, List.length_map, show (robA p).length = p.rb.length from List.length_map .., e, ← List.map_append]
theorem count_some (l : List Ab) (n : Nat) : (l.map some ++ List.replicate n none).count none = n := by
  rw [List.count_append, List.count_replicate_self]
  have : (l.map some).count none = 0 := List.count_eq_zero.mpr fun h => by
    obtain ⟨a, _, e⟩ := List.mem_map.mp h
    cases e
  omega
theorem bind_some {β : Type} (g : Ab → Option β) (l : List Ab) (n : Nat) : (l.map some ++ List.replicate n none).filterMap (fun (o : Option Ab) => o.bind g) = l.filterMap g := by
  rw [List.filterMap_append, List.filterMap_map]
  have : (List.replicate n (none : Option Ab)).filterMap (fun (o : Option Ab) => o.bind g) = [] := by
    induction n with
    | zero => rfl
    | succ n ih => rw [List.replicate_succ, List.filterMap_cons]; exact ih
  rw [this, List.append_nil]
  rfl
theorem clr_at {p : LP} {k : Nat} (h : k ∈ clrL p) : k < p.fl.length ∧ p.fl.getD k 0 = 0 := by
  have h2 := List.mem_filter.mp (List.mem_of_mem_take h)
  exact ⟨List.mem_range.mp h2.1, of_decide_eq_true h2.2⟩
theorem zA_puts (p : LP) : putsOfA (zA p) = ((clrL p).map fun (k : Nat) => ((k : Int), 0)) ∧ robsOf (zA p) = [] ∧ rulesOfA (zA p) = [] := by
  have h := puts_put ((clrL p).map fun k => (0, k))
  rw [List.map_map, List.map_map] at h
  exact h
theorem tx_sum {l : List Nat} {ws : List Str} (h : Tx l ws) : (ws.map (·.length)).sum ≤ l.length := by
  induction h with
  | nil => exact Nat.le_refl _
  | sp _ _ ih => rw [List.length_cons]; omega
  | @wd w l ws h s t ih =>
    rw [List.map_cons, List.sum_cons, List.length_append]
    have : w.length = (tl w).length := TL.len_tl w
    omega
theorem spaced_len {ws : List Str} {z : Str} (h : Spaced ws z) : z.length ≤ 2 * ws.length + (ws.map (·.length)).sum := by
  induction h with
  | nil => exact Nat.zero_le _
  | @snoc ws z s w h hs ih =>
    have : s.length ≤ 2 := (show ∀ s ∈ SEP4, s.length ≤ 2 by decide +kernel) s hs
    rw [slen_app, slen_app, List.length_append, List.map_append, List.sum_append]
    simp only [List.map_cons, List.map_nil, List.sum_cons, List.sum_nil, List.length_cons, List.length_nil]
    omega
theorem zput_len {p : LP} (G : GoodLP 16 p) {k : Nat} (h : k ∈ clrL p) : (zput p k).length ≤ 200 := by
  have := clr_at h
  have f1 := G.f1
  have s1 := G.s1
  obtain ⟨z1, z2, z3, z4, z5, z6, z7, z8, z9, z10, z11⟩ := lits2
  have n2 := nS_len k (by omega)
  have n3 := getD_len (sg_len G) (show 0 < p.sg.length by omega)
  unfold zput lwPutS
  simp only [slen_app]
  omega
theorem loose_len {p : LP} (G : GoodLP 16 p) : ∀ z ∈ looseSet p, z.length ≤ 200 := by
  intro z hz
  unfold looseSet at hz
  rcases List.mem_append.mp hz with hz | hz
  · rcases List.mem_append.mp hz with hz | hz
    · exact lawL_small G z (List.mem_of_mem_drop (List.mem_filter.mp hz).1)
    · obtain ⟨k, hk, rfl⟩ := List.mem_map.mp hz
      exact zput_len G hk
  · rw [(List.mem_replicate.mp hz).2]
    exact Nat.zero_le _
theorem strOk_join {y : Str} (hy : PyData.strOk y = true) : ∀ l : List Str, (∀ z ∈ l, PyData.strOk z = true) → PyData.strOk (Txt.join y l) = true := by
  intro l hl
  have key : ∀ l : List Str, (∀ z ∈ l, PyData.strOk z = true) → (TL.joinL (tl y) (l.map tl)).all (fun c => decide (c < 0x110000)) = true := by
    intro l
    have hy' : (tl y).all (fun c => decide (c < 0x110000)) = true := by unfold PyData.strOk at hy; rw [← Array.all_toList] at hy; exact hy
    induction l with
    | nil => exact fun _ => rfl
    | cons z r ih =>
      intro h
      have hz : (tl z).all (fun c => decide (c < 0x110000)) = true := by
        have := h z (List.mem_cons_self ..)
        unfold PyData.strOk at this; rw [← Array.all_toList] at this; exact this
      cases r with
      | nil => exact hz
      | cons v r =>
        rw [List.map_cons, joinL_cons _ _ (by simp), List.all_append, List.all_append, hz, hy', ih fun x hx => h x (List.mem_cons_of_mem _ hx)]
        rfl
  unfold PyData.strOk
  rw [← Array.all_toList]
  have e := join_tl y l
  have := key l hl
  rw [← e] at this
  exact this
theorem mv_ok : ∀ d : Nat, d < 3 → PyData.strOk (MOVESs.getD d Str.empty) = true
  | 0, _ => by decide +kernel
  | 1, _ => by decide +kernel
  | 2, _ => by decide +kernel
  | n + 3, h => by omega
theorem put_ok {p : LP} (G : GoodLP 16 p) {i t : Nat} (hi : i < p.sg.length) (ht : t < p.fl.length) : PyData.strOk (lwPutS (p.sg.getD i Str.empty) t) = true := by
  have f1 := G.f1
  unfold lwPutS
  exact strOk_app (strOk_app (strOk_app (strOk_app (by decide +kernel) (sg_ok G _ (getD_mem hi))) (by decide +kernel)) (nS_ok _ (by omega) (by omega))) (by decide +kernel)
theorem loose_ok {p : LP} (G : GoodLP 16 p) : ∀ z ∈ looseSet p, PyData.strOk z = true := by
  intro z hz
  have s1 := G.s1
  unfold looseSet at hz
  rw [othL_eq] at hz
  rcases List.mem_append.mp hz with hz | hz
  · rcases List.mem_append.mp hz with hz | hz
    · obtain ⟨a, ha, rfl⟩ := List.mem_map.mp hz
      have hok := ab_ok G a (by
        rcases List.mem_append.mp ha with h | h
        · exact List.mem_append_left _ (List.mem_append_right _ h)
        · exact List.mem_append_right _ h)
      rcases List.mem_append.mp ha with ha | ha
      · obtain ⟨t, _, rfl⟩ := List.mem_map.mp ha
        exact put_ok G hok.1 hok.2
      · obtain ⟨x, _, rfl⟩ := List.mem_map.mp ha
        obtain ⟨h1, h2, h3, h4, h5⟩ := hok
        refine strOk_app (strOk_join (by decide +kernel) _ fun w hw => ?_) (by decide +kernel)
        unfold lwWords at hw
        simp only [List.mem_cons, List.not_mem_nil, or_false] at hw
        rcases hw with rfl | rfl | rfl | rfl | rfl | rfl | rfl
        · decide +kernel
        · exact md_ok G _ (getD_mem h1)
        · exact sg_ok G _ (getD_mem h2)
        · decide +kernel
        · exact sg_ok G _ (getD_mem h3)
        · exact mv_ok _ h4
        · exact md_ok G _ (getD_mem h5)
    · obtain ⟨k, hk, rfl⟩ := List.mem_map.mp hz
      exact put_ok G (by omega) (clr_at hk).1
  · rw [(List.mem_replicate.mp hz).2]
    decide +kernel
theorem good_loose {p : LP} {L : List Str} {z : Str} (G : GoodLP 16 p) (hL : LooseOK p L) (hz : Spaced (Txt.words (Txt.replace (Txt.join "\n" L) ";" " ; ")) z) : ∃ pd ts ss, Good z pd ts ss ∧ Like p pd := by
  obtain ⟨lo, hlo, rfl⟩ := hL
  have r1 := G.r1
  have f1 := G.f1
  have s1 := G.s1
  have ul := G.ul
  rw [looseSet_eq] at hlo
  obtain ⟨los, hp, rfl⟩ := perm_map hlo rfl
  obtain ⟨x0, rr, hr⟩ : ∃ x r, p.rb = x :: r := by
    cases hr : p.rb with
    | nil => rw [hr] at r1; exact absurd r1.1 (by decide)
    | cons x r => exact ⟨x, r, rfl⟩
  obtain ⟨rs, hrs⟩ : ∃ rs : List Ab, rs = rr.map fun r => .rob r.1 r.2 := ⟨_, rfl⟩
  have hrob : robA p = Ab.rob x0.1 x0.2 :: rs := by unfold robA; rw [hr, hrs]; rfl
  have hcnt : los.count none = rs.length := by rw [hp.count_eq, count_some, hr, hrs, List.length_map]; rfl
  have eL : (lawL p).take 3 ++ (robL' p).take 1 ++ fillM ((robL' p).drop 1) (los.map (lnO p)) = headL p ++ (Ab.rob x0.1 x0.2 :: fillR rs los).map (abLine p) := by
    rw [head_eq, robL_eq, hrob, List.map_cons, List.take_succ_cons, List.take_zero, List.drop_succ_cons, List.drop_zero, fill_eq p los rs hcnt, List.append_assoc]
    rfl
  rw [eL] at hz
  have hsomes : ∀ a, some a ∈ los → a ∈ putA p ++ ruA p ++ zA p := fun a ha => by
    have := hp.mem_iff.mp ha
    rcases List.mem_append.mp this with h | h
    · obtain ⟨b, hb, e⟩ := List.mem_map.mp h
      rw [← Option.some.inj e]; exact hb
    · exact absurd (List.mem_replicate.mp h).2 (by intro q; cases q)
  have hzk : ∀ k ∈ clrL p, k < p.fl.length ∧ p.fl.getD k 0 = 0 := fun k hk => clr_at hk
  have hok : ∀ a ∈ Ab.rob x0.1 x0.2 :: fillR rs los, abOK p a := by
    intro a ha
    have hC := ab_ok G
    rcases List.mem_cons.mp ha with rfl | ha
    · exact hC _ (List.mem_append_left _ (List.mem_append_left _ (by rw [hrob]; exact List.mem_cons_self ..)))
    · rcases fillR_mem los rs a ha with h | h
      · exact hC _ (List.mem_append_left _ (List.mem_append_left _ (by rw [hrob]; exact List.mem_cons_of_mem _ h)))
      · rcases List.mem_append.mp (hsomes a h) with h | h
        · rcases List.mem_append.mp h with h | h
          · exact hC _ (List.mem_append_left _ (List.mem_append_right _ h))
          · exact hC _ (List.mem_append_right _ h)
        · obtain ⟨k, hk, rfl⟩ := List.mem_map.mp h
          exact ⟨by omega, (hzk k hk).1⟩
  have hpz := putA_puts p
  have hzz := zA_puts p
  have hrr := rules_rule p.ru
  have hnoP : ∀ r ∈ rs, gPut r = none := fun r h => by
    rw [hrs] at h
    obtain ⟨q, _, rfl⟩ := List.mem_map.mp h
    rfl
  have hnoR : ∀ r ∈ rs, gRule r = none := fun r h => by
    rw [hrs] at h
    obtain ⟨q, _, rfl⟩ := List.mem_map.mp h
    rfl
  have eP : (putsOfA (Ab.rob x0.1 x0.2 :: fillR rs los)).Perm (putsOfA (putA p) ++ putsOfA (zA p)) := by
    have h1 : putsOfA (Ab.rob x0.1 x0.2 :: fillR rs los) = los.filterMap (fun (o : Option Ab) => o.bind gPut) := fillR_of gPut los rs hcnt hnoP
    rw [h1]
    refine (hp.filterMap _).trans ?_
    rw [bind_some]
    show (putsOfA (putA p ++ ruA p ++ zA p)).Perm _
    rw [puts_app, puts_app, show putsOfA (ruA p) = [] from hrr.2.2, List.append_nil]
  have eR : (rulesOfA (Ab.rob x0.1 x0.2 :: fillR rs los)).Perm p.ru := by
    have h1 : rulesOfA (Ab.rob x0.1 x0.2 :: fillR rs los) = los.filterMap (fun (o : Option Ab) => o.bind gRule) := fillR_of gRule los rs hcnt hnoR
    rw [h1]
    refine (hp.filterMap _).trans ?_
    rw [bind_some]
    show (rulesOfA (putA p ++ ruA p ++ zA p)).Perm _
    rw [rules_app, rules_app, hpz.2.2, hzz.2.2, show rulesOfA (ruA p) = p.ru from hrr.1, List.append_nil, List.nil_append]
  have eB : robsOf (Ab.rob x0.1 x0.2 :: fillR rs los) = p.rb.map fun r => ((r.1 : Int), if r.2 then 1 else 0) := by
    have h1 : robsOf (fillR rs los) = robsOf rs := fillR_rob gRob los rs hcnt fun a ha => by
      rcases List.mem_append.mp (hsomes a ha) with h | h
      · rcases List.mem_append.mp h with h | h
        · obtain ⟨t, _, rfl⟩ := List.mem_map.mp h; rfl
        · obtain ⟨t, _, rfl⟩ := List.mem_map.mp h; rfl
      · obtain ⟨t, _, rfl⟩ := List.mem_map.mp h; rfl
    show _ :: robsOf (fillR rs los) = _
    rw [h1, hrs, robs_rob, hr]
    rfl
  have hA : Abs p (Ab.rob x0.1 x0.2 :: fillR rs los) := by
    refine ⟨hok, eB, fun x hx => ?_, fun t ht hz => ?_, ?_, eR, ?_⟩
    · rcases List.mem_append.mp (eP.mem_iff.mp hx) with h | h
      · rw [hpz.1] at h
        obtain ⟨t, ht, rfl⟩ := List.mem_map.mp h
        exact ⟨t, rfl, List.mem_range.mp (List.mem_filter.mp ht).1, rfl⟩
      · rw [hzz.1] at h
        obtain ⟨k, hk, rfl⟩ := List.mem_map.mp h
        exact ⟨k, rfl, (hzk k hk).1, (hzk k hk).2.symm⟩
    · refine eP.mem_iff.mpr (List.mem_append_left _ ?_)
      rw [hpz.1]
      exact List.mem_map.mpr ⟨t, List.mem_filter.mpr ⟨List.mem_range.mpr ht, decide_eq_true hz⟩, rfl⟩
    · refine ((eP.map (·.1)).nodup_iff).mpr ?_
      rw [List.map_append, hpz.1, hzz.1, List.map_map, List.map_map]
      refine List.nodup_append.mpr ⟨?_, ?_, ?_⟩
      · exact List.pairwise_map.mpr (List.Pairwise.filter _ (List.nodup_range.imp fun {a b} q e => q (Int.ofNat.inj e)))
      · refine List.pairwise_map.mpr ?_
        unfold clrL
        exact List.Pairwise.sublist (List.take_sublist _ _) (List.Pairwise.filter _ (List.nodup_range.imp fun {a b} q e => q (Int.ofNat.inj e)))
      · intro u hu v hv e
        obtain ⟨t, ht, rfl⟩ := List.mem_map.mp hu
        obtain ⟨k, hk, rfl⟩ := List.mem_map.mp hv
        have h1 := of_decide_eq_true (List.mem_filter.mp ht).2
        have h2 := (hzk k hk).2
        have e2 : t = k := Int.ofNat.inj e
        rw [e2] at h1
        omega
    · have h1 := fillR_len los rs
      have h2 := hp.length_eq
      have h3 := lawL_count G
      rw [List.length_cons]
      rw [List.length_append, List.length_map, List.length_replicate, List.length_append, List.length_append] at h2
      have h4 : (putA p).length ≤ 16 := by
        unfold putA
        rw [List.length_map]
        have := List.length_filter_le (fun t => decide (0 < p.fl.getD t 0)) (List.range p.fl.length)
        rw [List.length_range] at this
        omega
      have h5 : (ruA p).length ≤ 12 := by unfold ruA; rw [List.length_map]; exact ul
      have h6 : (zA p).length ≤ 3 := by unfold zA clrL; rw [List.length_map, List.length_take]; omega
      omega
  have tx := text_tx G hok
  have txz := spaced_good tx hz
  refine abs_good G hA ?_ txz
  have hw := words_of tx
  rw [hw] at hz
  have b1 := spaced_len hz
  have b2 := tx_sum tx
  have b3 := tx_len tx
  have b4 : (tl (Txt.join "\n" (headL p ++ (Ab.rob x0.1 x0.2 :: fillR rs los).map (abLine p)))).length ≤ 15500 := by
    have c1 := join_len "\n" (headL p ++ (Ab.rob x0.1 x0.2 :: fillR rs los).map (abLine p))
    have c2 := sum_le (n := 200) (headL p ++ (Ab.rob x0.1 x0.2 :: fillR rs los).map (abLine p)) fun z hz => by
      rw [← eL] at hz
      have hrob' : ∀ z ∈ robL' p, z ∈ lawL p := fun z hz => (List.mem_filter.mp hz).1
      rcases List.mem_append.mp hz with hz | hz
      · rcases List.mem_append.mp hz with hz | hz
        · exact lawL_small G z (List.mem_of_mem_take hz)
        · exact lawL_small G z (hrob' z (List.mem_of_mem_take hz))
      · refine fill_all (P := fun z => z.length ≤ 200) _ _ (fun z hz => lawL_small G z (hrob' z (List.mem_of_mem_drop hz))) (fun z hz => loose_len G z ?_) z hz
        rw [looseSet_eq]
        exact hlo.mem_iff.mp hz
    have c3 : (headL p ++ (Ab.rob x0.1 x0.2 :: fillR rs los).map (abLine p)).length ≤ 75 := by
      have h1 := fillR_len los rs
      have h2 := hp.length_eq
      rw [List.length_append, List.length_map, List.length_replicate, List.length_append, List.length_append] at h2
      have h4 : (putA p).length ≤ 16 := by
        unfold putA
        rw [List.length_map]
        have := List.length_filter_le (fun t => decide (0 < p.fl.getD t 0)) (List.range p.fl.length)
        rw [List.length_range] at this
        omega
      have h5 : (ruA p).length ≤ 12 := by unfold ruA; rw [List.length_map]; exact ul
      have h6 : (zA p).length ≤ 3 := by unfold zA clrL; rw [List.length_map, List.length_take]; omega
      rw [List.length_append, List.length_map, List.length_cons]
      show 3 + _ ≤ _
      omega
    rw [show ("\n" : Str).length = 1 from by decide +kernel, Nat.mul_one] at c1
    have c4 : (Txt.join "\n" (headL p ++ (Ab.rob x0.1 x0.2 :: fillR rs los).map (abLine p))).length = (tl (Txt.join "\n" (headL p ++ (Ab.rob x0.1 x0.2 :: fillR rs los).map (abLine p)))).length := TL.len_tl _
    omega
  omega
end Sw

/-! The mirror of the machine: situations and ticks. -/
namespace Sw
open PySem L2
abbrev RobD := Int × Nat × Nat
structure SitD where
  signs : List Nat
  robots : List RobD
def movedM (size tile : Int) (side move : Nat) : Int × Nat :=
  if move = 2 then (tile, side)
  else
    let heading := if move = 1 then 1 - side else side
    let ahead := if heading = 0 then tile - 1 else tile + 1
    if 0 ≤ ahead ∧ ahead < size then (ahead, heading) else (tile, 1 - heading)
/-- one robot acts: its word, itself behind it, the signs behind it -/
def actM (pd : PlanD) (signs : List Nat) (r : RobD) : Str × RobD × List Nat :=
  match ruleAt pd.rules (r.2.2, signs.getD r.1.toNat 0) with
  | none => ("rest", r, signs)
  | some (i, d, l) =>
    let q := movedM pd.size r.1 r.2.1 d
    (MOVESs.getD d Str.empty, (q.1, q.2, l), signs.set r.1.toNat i)
/-- all robots, one after another -/
def actsM (pd : PlanD) : List RobD → List Nat → List Str × List RobD × List Nat
  | [], s => ([], [], s)
  | r :: rs, s =>
    let a := actM pd s r
    let b := actsM pd rs a.2.2
    (a.1 :: b.1, a.2.1 :: b.2.1, b.2.2)
def performM (pd : PlanD) (s : SitD) : List Str × SitD :=
  let a := actsM pd s.robots s.signs
  (a.1, ⟨a.2.2, a.2.1⟩)
def firstM (pd : PlanD) : SitD := ⟨(List.range pd.size.toNat).map fun (t : Nat) => (putAt pd.puts (t : Int)).getD 0, pd.robots.map fun r => (r.1, r.2, 0)⟩
/-- what stays so through the ticks -/
structure RobOK (pd : PlanD) (r : RobD) : Prop where
  t : 0 ≤ r.1 ∧ r.1 < pd.size
  s : r.2.1 < 2
  m : r.2.2 < pd.moods.length
structure SitOK (pd : PlanD) (q : SitD) : Prop where
  n : (q.signs.length : Int) = pd.size
  s : ∀ i ∈ q.signs, i < pd.signs.length
  r : ∀ r ∈ q.robots, RobOK pd r
  k : q.robots.length ≤ 3
theorem moved_ok {size tile : Int} {side move : Nat} (h : 0 ≤ tile ∧ tile < size) (hs : side < 2) : (0 ≤ (movedM size tile side move).1 ∧ (movedM size tile side move).1 < size) ∧ (movedM size tile side move).2 < 2 := by
  unfold movedM
  by_cases h2 : move = 2
  · rw [if_pos h2]; exact ⟨h, hs⟩
  · rw [if_neg h2]
    dsimp only
    obtain ⟨g, hg, hg2⟩ : ∃ g, g = (if move = 1 then 1 - side else side) ∧ g < 2 := ⟨_, rfl, by split <;> omega⟩
    rw [← hg]
    by_cases h3 : 0 ≤ (if g = 0 then tile - 1 else tile + 1) ∧ (if g = 0 then tile - 1 else tile + 1) < size
    · rw [if_pos h3]
      exact ⟨h3, hg2⟩
    · rw [if_neg h3]
      exact ⟨h, by dsimp only; omega⟩
theorem acts_cons (pd : PlanD) (x : RobD) (l : List RobD) (s : List Nat) : actsM pd (x :: l) s = ((actM pd s x).1 :: (actsM pd l (actM pd s x).2.2).1, (actM pd s x).2.1 :: (actsM pd l (actM pd s x).2.2).2.1, (actsM pd l (actM pd s x).2.2).2.2) := rfl
theorem acts_snoc {pd : PlanD} : ∀ (l : List RobD) (r : RobD) (s : List Nat), actsM pd (l ++ [r]) s = ((actsM pd l s).1 ++ [(actM pd (actsM pd l s).2.2 r).1], (actsM pd l s).2.1 ++ [(actM pd (actsM pd l s).2.2 r).2.1], (actM pd (actsM pd l s).2.2 r).2.2)
  | [], r, s => rfl
  | x :: l, r, s => by
    rw [List.cons_append, acts_cons, acts_cons, acts_snoc (pd := pd) l r (actM pd s x).2.2]
    rfl
theorem acts_len {pd : PlanD} : ∀ (l : List RobD) (s : List Nat), (actsM pd l s).1.length = l.length ∧ (actsM pd l s).2.1.length = l.length
  | [], _ => ⟨rfl, rfl⟩
  | x :: l, s => by
    have := acts_len (pd := pd) l (actM pd s x).2.2
    exact ⟨congrArg (· + 1) this.1, congrArg (· + 1) this.2⟩
theorem rule_mem : ∀ {l : List ((Nat × Nat) × Nat × Nat × Nat)} {k : Nat × Nat} {v : Nat × Nat × Nat}, ruleAt l k = some v → (k, v) ∈ l
  | [], _, _, h => by cases h
  | x :: r, k, v, h => by
    unfold ruleAt at h
    by_cases e : x.1 = k
    · rw [if_pos e] at h
      cases h
      rw [← e]
      exact List.mem_cons_self ..
    · rw [if_neg e] at h
      exact List.mem_cons_of_mem _ (rule_mem h)
theorem act_ok {pd : PlanD} (S : Small pd) {signs : List Nat} {r : RobD} (hn : (signs.length : Int) = pd.size) (hs : ∀ i ∈ signs, i < pd.signs.length) (hr : RobOK pd r) :
    RobOK pd (actM pd signs r).2.1 ∧ ((actM pd signs r).2.2.length : Int) = pd.size ∧ (∀ i ∈ (actM pd signs r).2.2, i < pd.signs.length) ∧ (actM pd signs r).1.length ≤ 8 := by
  unfold actM
  cases e : ruleAt pd.rules (r.2.2, signs.getD r.1.toNat 0) with
  | none => exact ⟨hr, hn, hs, by show ("rest" : Str).length ≤ 8; decide +kernel⟩
  | some x =>
    obtain ⟨i, d, l⟩ := x
    have hm : ((r.2.2, signs.getD r.1.toNat 0), i, d, l) ∈ pd.rules := rule_mem e
    have B := S.rl _ hm
    dsimp only at B ⊢
    have hq := moved_ok (move := d) hr.t hr.s
    refine ⟨⟨hq.1, hq.2, B.2.2.2.2⟩, by rw [List.length_set]; exact hn, fun j hj => ?_, ?_⟩
    · rcases List.mem_or_eq_of_mem_set hj with h | h
      · exact hs j h
      · rw [h]; exact B.2.2.1
    · have : ∀ d : Fin 3, (MOVESs.getD d.val Str.empty).length ≤ 8 := by decide +kernel
      exact this ⟨d, B.2.2.2.1⟩
end Sw

/-! Situations one after another: where they come again; how many there are. -/
namespace Sw
open PySem L2
def robK (r : RobD) : NestedKey := .tup [.num r.1, .num (r.2.1 : Int), .num (r.2.2 : Int)]
def sitK (d : SitD) : NestedKey := .tup [.tup (d.signs.map fun (i : Nat) => .num (i : Int)), .tup (d.robots.map robK)]
theorem map_inj' {α β : Type} {f : α → β} (hf : ∀ x y, f x = f y → x = y) : ∀ {l m : List α}, l.map f = m.map f → l = m
  | [], [], _ => rfl
  | [], _ :: _, h => by cases h
  | _ :: _, [], h => by cases h
  | x :: l, y :: m, h => by
    rw [List.map_cons, List.map_cons] at h
    injection h with h1 h2
    rw [hf _ _ h1, map_inj' hf h2]
theorem robK_inj (x y : RobD) (h : robK x = robK y) : x = y := by
  obtain ⟨a, b, c⟩ := x
  obtain ⟨a', b', c'⟩ := y
  unfold robK at h
  injection h with h
  injection h with h1 h
  injection h with h2 h
  injection h with h3 h
  injection h1 with h1
  injection h2 with h2
  injection h3 with h3
  dsimp only at h1 h2 h3
  rw [h1, show b = b' by omega, show c = c' by omega]
theorem sitK_inj {d e : SitD} (h : sitK d = sitK e) : d = e := by
  obtain ⟨s, r⟩ := d
  obtain ⟨s', r'⟩ := e
  unfold sitK at h
  injection h with h
  injection h with h1 h
  injection h with h2 h
  injection h1 with h1
  injection h2 with h2
  dsimp only at h1 h2
  rw [map_inj' (fun x y q => by injection q with q; omega) h1, map_inj' robK_inj h2]
theorem depthAll_map {α : Type} {f : α → NestedKey} {n : Nat} (h : ∀ x, (f x).depth ≤ n) : ∀ l : List α, NestedKey.depthAll (l.map f) ≤ n
  | [] => Nat.zero_le _
  | x :: l => by
    rw [List.map_cons, NestedKey.depthAll]
    exact Nat.max_le.mpr ⟨h x, depthAll_map h l⟩
theorem robK_depth (r : RobD) : (robK r).depth ≤ 1 := by
  unfold robK
  simp [NestedKey.depth, NestedKey.depthAll]
theorem sitK_depth (d : SitD) : (sitK d).depth ≤ 8 := by
  have h1 := depthAll_map (f := fun (i : Nat) => NestedKey.num (i : Int)) (n := 0) (fun _ => Nat.le_refl _) d.signs
  have h2 := depthAll_map robK_depth d.robots
  unfold sitK
  rw [NestedKey.depth, NestedKey.depthAll, NestedKey.depthAll, NestedKey.depthAll, NestedKey.depth, NestedKey.depth]
  omega
def seqM (pd : PlanD) : Nat → SitD
  | 0 => firstM pd
  | n + 1 => (performM pd (seqM pd n)).2
/-- the words of a tick -/
def wordsM (pd : PlanD) (n : Nat) : List Str := (performM pd (seqM pd n)).1
theorem seq_shift {pd : PlanD} {a b : Nat} (h : seqM pd a = seqM pd b) : ∀ k, seqM pd (a + k) = seqM pd (b + k)
  | 0 => h
  | k + 1 => by
    show (performM pd (seqM pd (a + k))).2 = (performM pd (seqM pd (b + k))).2
    rw [seq_shift h k]
structure Cyc (pd : PlanD) (start N : Nat) : Prop where
  lt : start < N
  eq : seqM pd N = seqM pd start
  inj : ∀ i j, i < j → j < N → seqM pd i ≠ seqM pd j
def likeN (start len t : Nat) : Nat := if t < start then t else start + (t - start) % len
theorem cyc_add {pd : PlanD} {start N : Nat} (C : Cyc pd start N) (r : Nat) : ∀ q : Nat, seqM pd (start + r + q * (N - start)) = seqM pd (start + r)
  | 0 => by rw [Nat.zero_mul, Nat.add_zero]
  | q + 1 => by
    have h := C.lt
    have e : start + r + (q + 1) * (N - start) = N + (r + q * (N - start)) := by
      rw [Nat.succ_mul]
      omega
    have s := seq_shift C.eq (r + q * (N - start))
    rw [e, s, ← Nat.add_assoc]
    exact cyc_add C r q
theorem cyc_like {pd : PlanD} {start N : Nat} (C : Cyc pd start N) (t : Nat) : seqM pd t = seqM pd (likeN start (N - start) t) := by
  unfold likeN
  by_cases h : t < start
  · rw [if_pos h]
  · rw [if_neg h]
    have e := cyc_add C ((t - start) % (N - start)) ((t - start) / (N - start))
    rw [← e]
    congr 1
    have d := Nat.div_add_mod (t - start) (N - start)
    rw [Nat.mul_comm] at d
    omega
theorem like_lt {start N t : Nat} (h : start < N) : likeN start (N - start) t < N := by
  unfold likeN
  by_cases h1 : t < start
  · rw [if_pos h1]; omega
  · rw [if_neg h1]
    have := Nat.mod_lt (t - start) (show 0 < N - start by omega)
    omega
def Early (pd : PlanD) : Prop := ∃ i j, i < j ∧ j ≤ 20000 ∧ seqM pd i = seqM pd j
/-- n + 1 pigeons -/
theorem pigeon : ∀ (n : Nat) (f : Nat → Nat), (∀ i, i ≤ n → f i < n) → ∃ i j, i < j ∧ j ≤ n ∧ f i = f j
  | 0, f, h => absurd (h 0 (Nat.le_refl _)) (Nat.not_lt_zero _)
  | n + 1, f, h => by
    by_cases hx : ∃ i, i ≤ n ∧ f i = f (n + 1)
    · obtain ⟨i, hi, e⟩ := hx
      exact ⟨i, n + 1, by omega, Nat.le_refl _, e⟩
    · have hne : ∀ i, i ≤ n → f i ≠ f (n + 1) := fun i hi e => hx ⟨i, hi, e⟩
      have hl := h (n + 1) (Nat.le_refl _)
      obtain ⟨i, j, h1, h2, h3⟩ := pigeon n (fun i => if f i < f (n + 1) then f i else f i - 1) (fun i hi => by
        have a := h i (by omega)
        have b := hne i hi
        by_cases c : f i < f (n + 1)
        · rw [if_pos c]; omega
        · rw [if_neg c]; omega)
      refine ⟨i, j, h1, by omega, ?_⟩
      have b1 := hne i (by omega)
      have b2 := hne j h2
      by_cases c : f i < f (n + 1)
      · rw [if_pos c] at h3
        by_cases d : f j < f (n + 1)
        · rw [if_pos d] at h3; exact h3
        · rw [if_neg d] at h3; omega
      · rw [if_neg c] at h3
        by_cases d : f j < f (n + 1)
        · rw [if_pos d] at h3; omega
        · rw [if_neg d] at h3; omega
def codeL (b : Nat) : List Nat → Nat
  | [] => 0
  | x :: l => x + b * codeL b l
theorem codeL_lt {b : Nat} : ∀ {l : List Nat}, (∀ x ∈ l, x < b) → codeL b l < b ^ l.length
  | [], _ => by show 0 < b ^ 0; rw [Nat.pow_zero]; decide
  | x :: l, h => by
    have h1 := h x (List.mem_cons_self ..)
    have h2 := codeL_lt (l := l) fun y hy => h y (List.mem_cons_of_mem _ hy)
    show x + b * codeL b l < b ^ (l.length + 1)
    rw [Nat.pow_succ]
    have h3 : b * (codeL b l + 1) ≤ b * b ^ l.length := Nat.mul_le_mul_left b h2
    rw [Nat.mul_add, Nat.mul_one] at h3
    rw [Nat.mul_comm (b ^ l.length) b]
    omega
theorem code_split {b x y m n : Nat} (hx : x < b) (hy : y < b) (h : x + b * m = y + b * n) : x = y ∧ m = n := by
  have e1 : (x + b * m) % b = x := by rw [Nat.add_mul_mod_self_left, Nat.mod_eq_of_lt hx]
  have e2 : (y + b * n) % b = y := by rw [Nat.add_mul_mod_self_left, Nat.mod_eq_of_lt hy]
  have e : x = y := by rw [← e1, ← e2, h]
  subst e
  refine ⟨rfl, ?_⟩
  have hb : 0 < b := by omega
  exact Nat.eq_of_mul_eq_mul_left hb (by omega)
theorem codeL_inj {b : Nat} : ∀ {l m : List Nat}, l.length = m.length → (∀ x ∈ l, x < b) → (∀ x ∈ m, x < b) → codeL b l = codeL b m → l = m
  | [], [], _, _, _, _ => rfl
  | [], _ :: _, h, _, _, _ => by cases h
  | _ :: _, [], h, _, _, _ => by cases h
  | x :: l, y :: m, h, h1, h2, h3 => by
    obtain ⟨e1, e2⟩ := code_split (h1 x (List.mem_cons_self ..)) (h2 y (List.mem_cons_self ..)) (show x + b * codeL b l = y + b * codeL b m from h3)
    rw [e1, codeL_inj (l := l) (m := m) (by simpa using h) (fun z hz => h1 z (List.mem_cons_of_mem _ hz)) (fun z hz => h2 z (List.mem_cons_of_mem _ hz)) e2]
/-- a robot as a number -/
def robC (m : Nat) (r : RobD) : Nat := r.2.2 + m * (r.2.1 + 2 * r.1.toNat)
structure FitP (pd : PlanD) : Prop where
  S : Small pd
  rb : ∀ r ∈ pd.robots, r.1 < pd.size
  s1 : 1 ≤ pd.signs.length
  m1 : 1 ≤ pd.moods.length
theorem acts_ok {pd : PlanD} (S : Small pd) : ∀ (l : List RobD) (s : List Nat), (s.length : Int) = pd.size → (∀ i ∈ s, i < pd.signs.length) → (∀ r ∈ l, RobOK pd r) →
    (∀ r ∈ (actsM pd l s).2.1, RobOK pd r) ∧ ((actsM pd l s).2.2.length : Int) = pd.size ∧ (∀ i ∈ (actsM pd l s).2.2, i < pd.signs.length) ∧ ∀ w ∈ (actsM pd l s).1, w.length ≤ 8
  | [], s, h1, h2, _ => ⟨fun _ h => (List.not_mem_nil h).elim, h1, h2, fun _ h => (List.not_mem_nil h).elim⟩
  | x :: l, s, h1, h2, h3 => by
    have a := act_ok S h1 h2 (h3 x (List.mem_cons_self ..))
    have b := acts_ok S l (actM pd s x).2.2 a.2.1 a.2.2.1 fun r hr => h3 r (List.mem_cons_of_mem _ hr)
    rw [acts_cons]
    refine ⟨fun r hr => ?_, b.2.1, b.2.2.1, fun w hw => ?_⟩
    · rcases List.mem_cons.mp hr with e | hr
      · rw [e]; exact a.1
      · exact b.1 r hr
    · rcases List.mem_cons.mp hw with e | hw
      · rw [e]; exact a.2.2.2
      · exact b.2.2.2 w hw
theorem perform_ok {pd : PlanD} (S : Small pd) {d : SitD} (h : SitOK pd d) : SitOK pd (performM pd d).2 ∧ (∀ w ∈ (performM pd d).1, w.length ≤ 8) ∧ (performM pd d).1.length = d.robots.length ∧ (performM pd d).2.robots.length = d.robots.length := by
  have a := acts_ok S d.robots d.signs h.n h.s h.r
  have b := acts_len (pd := pd) d.robots d.signs
  exact ⟨⟨a.2.1, a.2.2.1, a.1, by rw [show (performM pd d).2.robots.length = d.robots.length from b.2]; exact h.k⟩, a.2.2.2, b.1, b.2⟩
theorem first_ok {pd : PlanD} (F : FitP pd) : SitOK pd (firstM pd) := by
  have z := F.S.sz
  refine ⟨?_, ?_, ?_, ?_⟩
  · show (((List.range pd.size.toNat).map _).length : Int) = pd.size
    rw [List.length_map, List.length_range]
    omega
  · intro i hi
    obtain ⟨t, _, e⟩ := List.mem_map.mp hi
    rw [← e]
    cases q : putAt pd.puts (t : Int) with
    | none => exact F.s1
    | some v =>
      have : ∀ {l : List (Int × Nat)} {t : Int} {v : Nat}, putAt l t = some v → (t, v) ∈ l := by
        intro l
        induction l with
        | nil => intro t v h; cases h
        | cons x r ih =>
          intro t v h
          unfold putAt at h
          by_cases e : x.1 = t
          · rw [if_pos e] at h
            cases h
            rw [← e]
            exact List.mem_cons_self ..
          · rw [if_neg e] at h
            exact List.mem_cons_of_mem _ (ih h)
      exact (F.S.pt _ (this q)).2.2
  · intro r hr
    obtain ⟨x, hx, e⟩ := List.mem_map.mp hr
    have h1 := F.S.rb x hx
    rw [← e]
    exact ⟨⟨h1.1, F.rb x hx⟩, h1.2.2, F.m1⟩
  · show (pd.robots.map _).length ≤ 3
    rw [List.length_map]
    exact F.S.rn
theorem seq_ok {pd : PlanD} (F : FitP pd) : ∀ n, SitOK pd (seqM pd n) ∧ (seqM pd n).robots.length = pd.robots.length
  | 0 => ⟨first_ok F, by show (pd.robots.map _).length = _; rw [List.length_map]⟩
  | n + 1 => by
    have ih := seq_ok F n
    have p := perform_ok F.S ih.1
    exact ⟨p.1, p.2.2.2.trans ih.2⟩
theorem words_ok {pd : PlanD} (F : FitP pd) (n : Nat) : (wordsM pd n).length = pd.robots.length ∧ ∀ w ∈ wordsM pd n, w.length ≤ 8 := by
  have ih := seq_ok F n
  have p := perform_ok F.S ih.1
  exact ⟨p.2.2.1.trans ih.2, p.2.1⟩
/-- a situation as a number -/
def sitC (pd : PlanD) (d : SitD) : Nat := codeL pd.signs.length d.signs + pd.signs.length ^ pd.size.toNat * codeL (pd.moods.length * (2 * pd.size.toNat)) (d.robots.map (robC pd.moods.length))
theorem robC_lt {pd : PlanD} {r : RobD} (h : RobOK pd r) : robC pd.moods.length r < pd.moods.length * (2 * pd.size.toNat) := by
  have a := h.t
  have b := h.s
  have c := h.m
  unfold robC
  have e : r.2.1 + 2 * r.1.toNat + 1 ≤ 2 * pd.size.toNat := by omega
  have e2 := Nat.mul_le_mul_left pd.moods.length e
  rw [Nat.mul_add, Nat.mul_one] at e2
  omega
theorem robC_inj {pd : PlanD} {r q : RobD} (hr : RobOK pd r) (hq : RobOK pd q) (h : robC pd.moods.length r = robC pd.moods.length q) : r = q := by
  obtain ⟨a, b, c⟩ := r
  obtain ⟨a', b', c'⟩ := q
  have h1 := hr.t
  have h2 := hq.t
  have h3 := hr.s
  have h4 := hq.s
  unfold robC at h
  obtain ⟨e1, e2⟩ := code_split hr.m hq.m h
  dsimp only at *
  obtain ⟨e3, e4⟩ := code_split h3 h4 e2
  rw [e1, e3, show a = a' by omega]
theorem sitC_lt {pd : PlanD} {d : SitD} (h : SitOK pd d) : sitC pd d < pd.signs.length ^ pd.size.toNat * (pd.moods.length * (2 * pd.size.toNat)) ^ d.robots.length := by
  have h1 := codeL_lt h.s
  have h2 := codeL_lt (b := pd.moods.length * (2 * pd.size.toNat)) (l := d.robots.map (robC pd.moods.length)) fun x hx => by
    obtain ⟨r, hr, e⟩ := List.mem_map.mp hx
    rw [← e]
    exact robC_lt (h.r r hr)
  have hn := h.n
  rw [show d.signs.length = pd.size.toNat by omega] at h1
  rw [List.length_map] at h2
  have h3 := Nat.mul_le_mul_left (pd.signs.length ^ pd.size.toNat) (Nat.succ_le_of_lt h2)
  rw [Nat.succ_eq_add_one, Nat.mul_add, Nat.mul_one] at h3
  unfold sitC
  omega
theorem map_inj_on {α β : Type} {f : α → β} : ∀ {l m : List α}, (∀ x ∈ l, ∀ y ∈ m, f x = f y → x = y) → l.map f = m.map f → l = m
  | [], [], _, _ => rfl
  | [], _ :: _, _, h => by cases h
  | _ :: _, [], _, h => by cases h
  | x :: l, y :: m, hf, h => by
    rw [List.map_cons, List.map_cons] at h
    injection h with h1 h2
    rw [hf x (List.mem_cons_self ..) y (List.mem_cons_self ..) h1, map_inj_on (fun u hu v hv => hf u (List.mem_cons_of_mem _ hu) v (List.mem_cons_of_mem _ hv)) h2]
theorem sitC_inj {pd : PlanD} {d e : SitD} (hd : SitOK pd d) (he : SitOK pd e) (hl : d.robots.length = e.robots.length) (h : sitC pd d = sitC pd e) : d = e := by
  have n1 := hd.n
  have n2 := he.n
  have a1 := codeL_lt hd.s
  have a2 := codeL_lt he.s
  rw [show d.signs.length = pd.size.toNat by omega] at a1
  rw [show e.signs.length = pd.size.toNat by omega] at a2
  unfold sitC at h
  obtain ⟨e1, e2⟩ := code_split a1 a2 h
  have e3 := codeL_inj (by omega) hd.s he.s e1
  have e4 := codeL_inj (by rw [List.length_map, List.length_map]; exact hl) (fun x hx => by
    obtain ⟨r, hr, q⟩ := List.mem_map.mp hx
    rw [← q]
    exact robC_lt (hd.r r hr)) (fun x hx => by
    obtain ⟨r, hr, q⟩ := List.mem_map.mp hx
    rw [← q]
    exact robC_lt (he.r r hr)) e2
  have e5 := map_inj_on (fun x hx y hy q => robC_inj (hd.r x hx) (he.r y hy) q) e4
  obtain ⟨s, r⟩ := d
  obtain ⟨s', r'⟩ := e
  dsimp only at e3 e5
  rw [e3, e5]
theorem early_of {pd : PlanD} (F : FitP pd) (h : pd.signs.length ^ pd.size.toNat * (pd.moods.length * (2 * pd.size.toNat)) ^ pd.robots.length ≤ 20000) : Early pd := by
  obtain ⟨i, j, h1, h2, h3⟩ := pigeon (pd.signs.length ^ pd.size.toNat * (pd.moods.length * (2 * pd.size.toNat)) ^ pd.robots.length) (fun i => sitC pd (seqM pd i)) fun i _ => by
    have a := seq_ok F i
    rw [← a.2]
    exact sitC_lt a.1
  have a := seq_ok F i
  have b := seq_ok F j
  exact ⟨i, j, h1, by omega, sitC_inj a.1 b.1 (a.2.trans b.2.symm) h3⟩
end Sw

/-! A drawn plan runs as its text says. -/
namespace Sw
open PySem L2
/-- a drawn plan as a plan -/
def pdL (p : LP) : PlanD := ⟨(p.fl.length : Int), p.sg, p.md, p.rb.map fun r => ((r.1 : Int), if r.2 then 1 else 0), (List.range p.fl.length).map fun (t : Nat) => ((t : Int), p.fl.getD t 0), p.ru⟩
theorem putAt_range (f : Nat → Nat) : ∀ (n t : Nat), t < n → putAt ((List.range n).map fun (t : Nat) => ((t : Int), f t)) (t : Int) = some (f t) := by
  intro n t h
  refine putAt_of ?_ (List.mem_map.mpr ⟨t, List.mem_range.mpr h, rfl⟩)
  rw [List.map_map]
  have e : ((fun (x : Int × Nat) => x.1) ∘ fun (t : Nat) => ((t : Int), f t)) = fun (t : Nat) => (t : Int) := rfl
  rw [e]
  refine List.Pairwise.map _ (R := (· ≠ ·)) (fun a b h q => h ?_) List.nodup_range
  omega
theorem ruleAt_perm {l m : List ((Nat × Nat) × Nat × Nat × Nat)} (h : l.Perm m) (hn : (m.map (·.1)).Nodup) (k : Nat × Nat) : ruleAt l k = ruleAt m k := by
  have hn' : (l.map (·.1)).Nodup := (h.map (·.1)).nodup_iff.mpr hn
  cases e : ruleAt m k with
  | some v =>
    have h1 := rule_mem e
    exact ruleAt_of hn' (x := (k, v)) (h.mem_iff.mpr h1)
  | none =>
    cases e2 : ruleAt l k with
    | none => rfl
    | some v =>
      have h1 := h.mem_iff.mp (rule_mem e2)
      rw [ruleAt_of hn (x := (k, v)) h1] at e
      cases e
theorem act_congr {pd qd : PlanD} (hs : pd.size = qd.size) (hr : ∀ k, ruleAt pd.rules k = ruleAt qd.rules k) (s : List Nat) (r : RobD) : actM pd s r = actM qd s r := by
  unfold actM
  rw [hr, hs]
theorem acts_congr {pd qd : PlanD} (hs : pd.size = qd.size) (hr : ∀ k, ruleAt pd.rules k = ruleAt qd.rules k) : ∀ (l : List RobD) (s : List Nat), actsM pd l s = actsM qd l s
  | [], _ => rfl
  | x :: l, s => by rw [acts_cons, acts_cons, act_congr hs hr, acts_congr hs hr l]
theorem perform_congr {pd qd : PlanD} (hs : pd.size = qd.size) (hr : ∀ k, ruleAt pd.rules k = ruleAt qd.rules k) (d : SitD) : performM pd d = performM qd d := by
  unfold performM
  rw [acts_congr hs hr]
theorem like_first {p : LP} {pd : PlanD} (h : Like p pd) : firstM pd = firstM (pdL p) := by
  unfold firstM
  congr 1
  · rw [h.sz]
    show (List.range ((p.fl.length : Int)).toNat).map _ = (List.range ((p.fl.length : Int)).toNat).map _
    rw [Int.toNat_natCast]
    refine List.map_congr_left fun t ht => ?_
    have ht := List.mem_range.mp ht
    have e : putAt (pdL p).puts (t : Int) = some (p.fl.getD t 0) := putAt_range _ _ _ ht
    rw [e]
    show _ = p.fl.getD t 0
    by_cases h0 : 0 < p.fl.getD t 0
    · rw [putAt_of h.p3 (h.p2 t ht h0)]
      rfl
    · cases e2 : putAt pd.puts (t : Int) with
      | none => show 0 = _; omega
      | some v =>
        have : ∀ {l : List (Int × Nat)} {t : Int} {v : Nat}, putAt l t = some v → (t, v) ∈ l := by
          intro l
          induction l with
          | nil => intro t v h; cases h
          | cons x r ih =>
            intro t v h
            unfold putAt at h
            by_cases e : x.1 = t
            · rw [if_pos e] at h
              cases h
              rw [← e]
              exact List.mem_cons_self ..
            · rw [if_neg e] at h
              exact List.mem_cons_of_mem _ (ih h)
        obtain ⟨t', h1, _, h3⟩ := h.p1 _ (this e2)
        dsimp only at h1 h3
        have : t' = t := by omega
        rw [this] at h3
        exact h3
  · rw [h.rb]
    rfl
theorem like_rule {p : LP} {pd : PlanD} {m : Nat} (G : GoodLP m p) (h : Like p pd) (k : Nat × Nat) : ruleAt pd.rules k = ruleAt (pdL p).rules k := ruleAt_perm h.rl (ltN_nodup G.up) k
theorem like_seq {p : LP} {pd : PlanD} {m : Nat} (G : GoodLP m p) (h : Like p pd) : ∀ n, seqM pd n = seqM (pdL p) n
  | 0 => like_first h
  | n + 1 => by
    show (performM pd (seqM pd n)).2 = (performM (pdL p) (seqM (pdL p) n)).2
    rw [like_seq G h n, perform_congr (qd := pdL p) h.sz (like_rule G h)]
theorem like_words {p : LP} {pd : PlanD} {m : Nat} (G : GoodLP m p) (h : Like p pd) (n : Nat) : wordsM pd n = wordsM (pdL p) n := by
  show (performM pd (seqM pd n)).1 = (performM (pdL p) (seqM (pdL p) n)).1
  rw [like_seq G h n, perform_congr (qd := pdL p) h.sz (like_rule G h)]
theorem good16 {m : Nat} {p : LP} (G : GoodLP m p) (h : m ≤ 16) : GoodLP 16 p := ⟨G.sg, G.sd, G.s1, G.md, G.dd, G.m1, G.fl, ⟨G.f1.1, Nat.le_trans G.f1.2 h⟩, G.rb, G.r1, G.ru, G.up, G.ul⟩
theorem like_fit {p : LP} {pd : PlanD} (G : GoodLP 16 p) (h : Like p pd) : FitP pd := by
  refine ⟨like_small G h, fun r hr => ?_, by rw [h.sg]; exact G.s1.1, by rw [h.md]; exact G.m1.1⟩
  rw [h.rb] at hr
  obtain ⟨x, hx, e⟩ := List.mem_map.mp hr
  rw [← e, h.sz]
  have := G.rb x hx
  dsimp only
  omega
theorem fitL {p : LP} (G : GoodLP 16 p) : FitP (pdL p) := by
  have f2 := G.f1.2
  have f1 := G.f1.1
  have hg : ∀ t, t < p.fl.length → p.fl.getD t 0 < p.sg.length := fun t ht => by
    have e : p.fl.getD t 0 = p.fl[t] := by simp [List.getD, ht]
    rw [e]
    exact G.fl _ (List.getElem_mem _)
  have z1 := G.s1
  have z2 := G.m1
  have z3 := G.r1
  refine ⟨⟨?_, sg_len G, by show p.sg.length ≤ 8; omega, md_len G, by show p.md.length ≤ 8; omega, fun r hr => ?_, ?_, fun x hx => ?_, ?_, fun x hx => G.ru x hx, ?_⟩, fun r hr => ?_, G.s1.1, G.m1.1⟩
  · show 0 ≤ (p.fl.length : Int) ∧ (p.fl.length : Int) ≤ 16
    omega
  · obtain ⟨x, hx, e⟩ := List.mem_map.mp hr
    have := G.rb x hx
    rw [← e]
    dsimp only
    refine ⟨by omega, by omega, ?_⟩
    cases x.2 <;> decide
  · show (p.rb.map _).length ≤ 3
    rw [List.length_map]
    omega
  · obtain ⟨t, ht, e⟩ := List.mem_map.mp hx
    have ht := List.mem_range.mp ht
    rw [← e]
    dsimp only
    exact ⟨by omega, by omega, hg t ht⟩
  · show ((List.range p.fl.length).map _).length ≤ 16
    rw [List.length_map, List.length_range]
    omega
  · have := G.ul
    show p.ru.length ≤ 63
    omega
  · obtain ⟨x, hx, e⟩ := List.mem_map.mp hr
    have := G.rb x hx
    rw [← e]
    show (x.1 : Int) < (p.fl.length : Int)
    omega
theorem firstL (p : LP) : firstM (pdL p) = ⟨p.fl, p.rb.map fun r => ((r.1 : Int), (if r.2 then 1 else 0), 0)⟩ := by
  unfold firstM
  congr 1
  · show (List.range ((p.fl.length : Int)).toNat).map _ = p.fl
    rw [Int.toNat_natCast]
    refine List.ext_getElem (by rw [List.length_map, List.length_range]) fun i h1 h2 => ?_
    rw [List.getElem_map, List.getElem_range]
    have e : putAt (pdL p).puts (i : Int) = some (p.fl.getD i 0) := putAt_range _ _ _ h2
    rw [e]
    show p.fl.getD i 0 = _
    simp [List.getD, h2]
  · show (p.rb.map _).map _ = _
    rw [List.map_map]
    rfl
/-- what one robot does, as the statement says it: word by word -/
theorem moved_law {size tile : Int} {side : Nat} (hs : side < 2) (d : Nat) (hd : d < 3) : movedM size tile side d =
    (let g := if d = 1 then 1 - side else side
     let x := tile + (if g = 1 then 1 else -1)
     if ¬ d = 2 ∧ 0 ≤ x ∧ x < size then (x, g) else if ¬ d = 2 then (tile, 1 - g) else (tile, g)) := by
  unfold movedM
  dsimp only
  by_cases h2 : d = 2
  · rw [if_pos h2, if_neg (fun q => q.1 h2), if_neg (fun q => q h2), if_neg (show ¬ d = 1 by omega)]
  · rw [if_neg h2]
    obtain ⟨g, hg, hg2⟩ : ∃ g, g = (if d = 1 then 1 - side else side) ∧ g < 2 := ⟨_, rfl, by split <;> omega⟩
    rw [← hg]
    have e : (if g = 0 then tile - 1 else tile + 1) = tile + (if g = 1 then 1 else -1) := by
      by_cases h0 : g = 0
      · rw [if_pos h0, if_neg (by omega)]; omega
      · rw [if_neg h0, if_pos (by omega)]
    rw [e]
    generalize tile + (if g = 1 then (1 : Int) else -1) = x
    by_cases h3 : 0 ≤ x ∧ x < size
    · rw [if_pos h3, if_pos ⟨h2, h3⟩]
    · rw [if_neg h3, if_neg (fun q => h3 q.2), if_pos h2]
end Sw

/-! The bytes of a drawn plan. -/
namespace Sw
open PySem L2
def ltrB (c : Nat) : Int := (((c - 97 : Nat)) : Int)
def wordB (z : Str) : List Int := (z.length : Int) :: z.cps.toList.map ltrB
def namesB (l : List Str) : List Int := (l.length : Int) :: l.flatMap wordB
def robB (r : Nat × Bool) : List Int := [(r.1 : Int), if r.2 then 1 else 0]
def ruB (x : (Nat × Nat) × Nat × Nat × Nat) : List Int := [(x.1.1 : Int), (x.1.2 : Int), (x.2.1 : Int), (x.2.2.1 : Int), (x.2.2.2 : Int)]
def floorB (l : List Nat) : List Int := l.map fun (i : Nat) => (i : Int)
def bodyB (p : LP) : List Int := [(82 : Int), (p.fl.length : Int)] ++ namesB p.sg ++ namesB p.md ++ [(p.rb.length : Int)] ++ p.rb.flatMap robB ++ floorB p.fl ++ [(p.ru.length : Int)] ++ p.ru.flatMap ruB
def codeB (p : LP) : List Int := bodyB p ++ [(bodyB p).sum % 256]
structure NameOk (z : Str) : Prop where
  l : 1 ≤ z.length ∧ z.length ≤ 8
  c : ∀ c ∈ z.cps.toList, 97 ≤ c ∧ c < 123
  k : z ∉ KWS
def nameOkB (z : Str) : Bool := decide (1 ≤ z.length ∧ z.length ≤ 8) && z.cps.toList.all (fun c => decide (97 ≤ c ∧ c < 123)) && decide (z ∉ KWS)
theorem nameOk_of {z : Str} (h : nameOkB z = true) : NameOk z := by
  unfold nameOkB at h
  rw [Bool.and_eq_true, Bool.and_eq_true] at h
  obtain ⟨⟨h1, h2⟩, h3⟩ := h
  exact ⟨of_decide_eq_true h1, fun c hc => of_decide_eq_true (List.all_eq_true.mp h2 c hc), of_decide_eq_true h3⟩
theorem name_sg : ∀ z ∈ SG5, NameOk z := fun z h => nameOk_of ((show ∀ z ∈ SG5, nameOkB z = true by decide +kernel) z h)
theorem name_md : ∀ z ∈ MD7, NameOk z := fun z h => nameOk_of ((show ∀ z ∈ MD7, nameOkB z = true by decide +kernel) z h)
def LET26 : Str := "abcdefghijklmnopqrstuvwxyz"
theorem let_len : LET26.length = 26 := by decide +kernel
theorem let_at {c : Nat} (h1 : 97 ≤ c) (h2 : c < 123) : atI LET26.cps.toList (ltrB c) = some c := by
  have h : ∀ k : Fin 26, atI LET26.cps.toList (ltrB (97 + k.val)) = some (97 + k.val) := by decide +kernel
  have := h ⟨c - 97, by omega⟩
  rwa [show 97 + (c - 97) = c by omega] at this
theorem let_occ {c : Nat} (h1 : 97 ≤ c) (h2 : c < 123) : ∃ rest, Builtin.Str.occurrences LET26 ⟨#[c]⟩ 0 LET26.length 1 = (c - 97) :: rest := by
  have h : ∀ k : Fin 26, (Builtin.Str.occurrences LET26 ⟨#[97 + k.val]⟩ 0 LET26.length 1).head? = some k.val := by decide +kernel
  have := h ⟨c - 97, by omega⟩
  rw [show 97 + (c - 97) = c by omega] at this
  cases q : Builtin.Str.occurrences LET26 ⟨#[c]⟩ 0 LET26.length 1 with
  | nil => rw [q] at this; cases this
  | cons x r =>
    rw [q] at this
    have e : x = c - 97 := Option.some.inj this
    rw [e]
    exact ⟨r, rfl⟩
theorem wordB_len (z : Str) : (wordB z).length = 1 + z.length := by
  unfold wordB
  rw [List.length_cons, List.length_map, Array.length_toList]
  show z.cps.size + 1 = 1 + z.cps.size
  omega
theorem flat_len {α : Type} {f : α → List Int} {n : Nat} : ∀ {l : List α}, (∀ x ∈ l, (f x).length ≤ n) → (l.flatMap f).length ≤ l.length * n
  | [], _ => Nat.zero_le _
  | x :: r, h => by
    rw [List.flatMap_cons, List.length_append, List.length_cons, Nat.succ_mul]
    have h1 := h x (List.mem_cons_self ..)
    have h2 := flat_len (l := r) fun y hy => h y (List.mem_cons_of_mem _ hy)
    omega
theorem namesB_len {l : List Str} (h : ∀ z ∈ l, z.length ≤ 8) : (namesB l).length ≤ 1 + l.length * 9 := by
  unfold namesB
  rw [List.length_cons]
  have := flat_len (l := l) (f := wordB) (n := 9) fun z hz => by rw [wordB_len]; have := h z hz; omega
  omega
theorem bodyB_len {m : Nat} {p : LP} (G : GoodLP m p) (hm : m ≤ 16) : (bodyB p).length ≤ 200 := by
  have h1 := namesB_len fun z hz => (name_sg z (G.sg z hz)).l.2
  have h2 := namesB_len fun z hz => (name_md z (G.md z hz)).l.2
  have h3 := flat_len (l := p.rb) (f := robB) (n := 2) fun _ _ => Nat.le_refl _
  have h4 := flat_len (l := p.ru) (f := ruB) (n := 5) fun _ _ => Nat.le_refl _
  have := G.s1
  have := G.m1
  have := G.f1
  have := G.r1
  have := G.ul
  unfold bodyB floorB
  simp only [List.length_append, List.length_cons, List.length_nil, List.length_map]
  omega
end Sw

/-! Texts of one plan: other gaps, other orders. -/
namespace Sw
open PySem L2
/-! ### the first five signs of a line -/
theorem cut5 (z : Str) : tl (cutS z none (some 5)) = (tl z).take 5 := by
  unfold cutS
  rw [HT.sIx_none, show (some (5 : Int)) = some ((5 : Nat) : Int) from rfl, HT.sIx_nat, List.drop_zero, Nat.sub_zero]
  show (tl z).take (min 5 z.length) = _
  rw [show z.length = (tl z).length from TL.len_tl z]
  rcases Nat.le_total 5 (tl z).length with h | h
  · rw [Nat.min_eq_left h]
  · rw [Nat.min_eq_right h, List.take_length, List.take_of_length_le h]
def isR5 (z : Str) : Bool := decide (cutS z none (some 5) = ("robot" : Str))
theorem isR5_no {z : Str} {c : Nat} {r : List Nat} (e : tl z = c :: r) (h : c ≠ 114) : isR5 z = false := by
  unfold isR5
  refine decide_eq_false fun q => ?_
  have h1 := congrArg tl q
  rw [cut5, e] at h1
  have h2 : (c :: r).take 5 = c :: r.take 4 := rfl
  rw [h2] at h1
  exact h (List.cons.inj h1).1
theorem isR5_yes {z : Str} {r : List Nat} (e : tl z = tl "robot" ++ r) : isR5 z = true := by
  unfold isR5
  refine decide_eq_true (TL.ext_tl ?_)
  show tl (cutS z none (some 5)) = tl "robot"
  rw [cut5, e, List.take_append_of_le_length (by decide +kernel)]
  rfl
theorem isR5_ab (p : LP) : ∀ a : Ab, isR5 (abLine p a) = match a with | .rob _ _ => true | _ => false
  | .rob t b => by
    refine isR5_yes (r := 32 :: (tl (nS (t : Int)) ++ tl (if b then (" right;" : Str) else " left;"))) ?_
    show tl (lwRob (t, b)) = _
    unfold lwRob
    rw [app_tl, app_tl, List.append_assoc]
    rfl
  | .put i t => by
    refine isR5_no (c := 112) (r := [117, 116, 32] ++ (tl (p.sg.getD i Str.empty) ++ (tl " " ++ (tl (nS (t : Int)) ++ tl ";")))) ?_ (by decide)
    show tl (lwPutS _ t) = _
    unfold lwPutS
    rw [app_tl, app_tl, app_tl, app_tl, List.append_assoc, List.append_assoc, List.append_assoc]
    rfl
  | .rule x => by
    refine isR5_no (c := 119) (r := [104, 101, 110] ++ ([32] ++ TL.joinL [32] ((lwWords p x).tail.map tl)) ++ [59]) ?_ (by decide)
    show tl (lwRule p x) = _
    unfold lwRule
    rw [app_tl, join_tl]
    rfl
theorem rob5_y (p : LP) : ∀ z ∈ (robA p).map (abLine p), isR5 z = true := fun z hz => by
  obtain ⟨a, ha, rfl⟩ := List.mem_map.mp hz
  obtain ⟨r, _, rfl⟩ := List.mem_map.mp ha
  rw [isR5_ab]
theorem rob5_n (p : LP) : ∀ z ∈ (putA p ++ ruA p).map (abLine p), isR5 z = false := fun z hz => by
  obtain ⟨a, ha, rfl⟩ := List.mem_map.mp hz
  rcases List.mem_append.mp ha with ha | ha
  · obtain ⟨r, _, rfl⟩ := List.mem_map.mp ha
    rw [isR5_ab]
  · obtain ⟨r, _, rfl⟩ := List.mem_map.mp ha
    rw [isR5_ab]
theorem lines3 (p : LP) : (lawL p).drop 3 = (robA p).map (abLine p) ++ (putA p ++ ruA p).map (abLine p) := by
  rw [lawL_abs, show (headL p ++ (robA p ++ putA p ++ ruA p).map (abLine p)).drop 3 = (robA p ++ putA p ++ ruA p).map (abLine p) from rfl, List.append_assoc, List.map_append]
theorem rob5 (p : LP) : ((lawL p).drop 3).filter isR5 = (robA p).map (abLine p) := by
  rw [lines3, List.filter_append, filter_all (rob5_y p), filter_none (rob5_n p), List.append_nil]
theorem oth5 (p : LP) : ((lawL p).drop 3).filter (fun z => !isR5 z) = (putA p ++ ruA p).map (abLine p) := by
  rw [lines3, List.filter_append, filter_none (fun z hz => by rw [rob5_y p z hz]; rfl), filter_all (fun z hz => by rw [rob5_n p z hz]; rfl), List.nil_append]
/-! ### ';' with a space ahead of it -/
def rep2 (l : List Nat) : List Nat := l.flatMap fun c => if c = 59 then [32, 59] else [c]
theorem rep2_hit (r : List Nat) : rep2 (59 :: r) = 32 :: 59 :: rep2 r := rfl
theorem rep2_miss {c : Nat} (h : c ≠ 59) (r : List Nat) : rep2 (c :: r) = c :: rep2 r := by unfold rep2; rw [List.flatMap_cons, if_neg h]; rfl
theorem rep_hit (r : List Nat) : rep (59 :: r) = 32 :: 59 :: 32 :: rep r := rfl
theorem rep_miss {c : Nat} (h : c ≠ 59) (r : List Nat) : rep (c :: r) = c :: rep r := by unfold rep; rw [List.flatMap_cons, if_neg h]; rfl
theorem replL_rep2 : ∀ l : List Nat, PySem.StrLaws.replL [59] [32, 59] l = rep2 l
  | [] => by rw [PySem.StrLaws.replL_nil]; rfl
  | c :: r => by
    by_cases h : c = 59
    · subst h
      rw [PySem.StrLaws.replL_hit (by decide) rfl, show List.drop ([59] : List Nat).length (59 :: r) = r from rfl, replL_rep2 r]
      rfl
    · rw [PySem.StrLaws.replL_miss (by simp [h]), replL_rep2 r, rep2_miss h]
/-- behind each ';' comes a gap, or nothing -/
def Semi : List Nat → Prop
  | [] => True
  | [_] => True
  | c :: d :: r => (c = 59 → d = 32 ∨ d = 10) ∧ Semi (d :: r)
theorem Semi.tail {c : Nat} {r : List Nat} (h : Semi (c :: r)) : Semi r := by
  cases r with
  | nil => trivial
  | cons d r => exact h.2
theorem words_same : ∀ (n : Nat) (l : List Nat), l.length ≤ n → Semi l → ∀ (d : List (List Nat)) (u : List Nat), TL.wfin ((rep2 l).foldl TL.wstep (d, u)) = TL.wfin ((rep l).foldl TL.wstep (d, u))
  | _, [], _, _, _, _ => rfl
  | 0, c :: r, h, _, _, _ => by rw [List.length_cons] at h; omega
  | n + 1, c :: r, hn, h, d, u => by
    rw [List.length_cons] at hn
    by_cases e : c = 59
    · subst e
      rw [rep2_hit, rep_hit, List.foldl_cons, List.foldl_cons, List.foldl_cons, List.foldl_cons, List.foldl_cons, wstep_sp sp32, wstep_ch sp59, wstep_sp sp32]
      cases r with
      | nil =>
        show TL.wfin (_, [] ++ [59]) = TL.wfin (_, [])
        unfold TL.wfin
        simp
      | cons f r =>
        have hf := h.1 rfl
        have hfs : Unicode.isSpace f = true := by rcases hf with rfl | rfl; exact sp32; exact sp10
        have hf59 : f ≠ 59 := by omega
        rw [rep2_miss hf59, rep_miss hf59, List.foldl_cons, List.foldl_cons, wstep_sp hfs, wstep_sp hfs]
        have ih := words_same n r (by rw [List.length_cons] at hn; omega) h.2.tail
        rw [ih]
        simp
    · rw [rep2_miss e, rep_miss e, List.foldl_cons, List.foldl_cons]
      cases q : TL.wstep (d, u) c with
      | mk d' u' => exact words_same n r (by omega) h.tail d' u'
theorem words_of2 {T : Str} {ws : List Str} (h : Tx (tl T) ws) (hs : Semi (tl T)) : Txt.words (Txt.replace T ";" " ;") = ws := by
  refine map_tl_inj ?_
  have e : (Txt.words (Txt.replace T ";" " ;")).map TL.tl = TL.wfin ((TL.tl (Txt.replace T ";" " ;")).foldl TL.wstep ([], [])) := TL.words_tl _
  have e2 : TL.tl (Txt.replace T ";" " ;") = rep2 (tl T) := by
    have := PySem.StrLaws.replace_list (x := T) (y := ";") (z := " ;") (by decide +kernel)
    rw [← replL_rep2]
    exact this
  rw [e2, words_same _ _ (Nat.le_refl _) hs, words_tx h [] [] (.inl rfl)] at e
  simpa using e
theorem spaced_good2 {T z : Str} {ws : List Str} (h : Tx (tl T) ws) (hs : Semi (tl T)) (hz : Spaced (Txt.words (Txt.replace T ";" " ;")) z) : Tx (tl z) ws := by
  rw [words_of2 h hs] at hz
  have := spaced_tx hz (tx_wok h) [] [] (.inl rfl) .nil
  rwa [List.append_nil, List.append_nil] at this
/-! ### lines end with their one ';' -/
def No59 (z : Str) : Prop := 59 ∉ tl z
theorem No59.app {a b : Str} (h1 : No59 a) (h2 : No59 b) : No59 (a ++ b) := by
  unfold No59 at *
  rw [app_tl, List.mem_append, not_or]
  exact ⟨h1, h2⟩
def no59B (z : Str) : Bool := !((tl z).contains 59)
theorem no59_of {z : Str} (h : no59B z = true) : No59 z := by
  intro m
  unfold no59B at h
  have := List.contains_iff_mem.mpr m
  rw [this] at h
  cases h
theorem no59_joinL (S : List Nat) (hS : 59 ∉ S) : ∀ l : List (List Nat), (∀ w ∈ l, 59 ∉ w) → 59 ∉ TL.joinL S l
  | [], _ => by intro h; cases h
  | [a], h => h a (List.mem_cons_self ..)
  | a :: b :: r, h => by
    rw [joinL_cons S a (List.cons_ne_nil _ _), List.mem_append, List.mem_append, not_or, not_or]
    exact ⟨h a (List.mem_cons_self ..), hS, no59_joinL S hS (b :: r) fun w hw => h w (List.mem_cons_of_mem _ hw)⟩
theorem no59_join {l : List Str} (h : ∀ z ∈ l, No59 z) : No59 (Txt.join " " l) := by
  unfold No59
  rw [join_tl]
  exact no59_joinL _ (by decide +kernel) _ fun w hw => by
    obtain ⟨z, hz, rfl⟩ := List.mem_map.mp hw
    exact h z hz
theorem no59_sg : ∀ z ∈ SG5, No59 z := fun z h => no59_of ((show ∀ z ∈ SG5, no59B z = true by decide +kernel) z h)
theorem no59_md : ∀ z ∈ MD7, No59 z := fun z h => no59_of ((show ∀ z ∈ MD7, no59B z = true by decide +kernel) z h)
theorem no59_mv : ∀ d, d < 3 → No59 (MOVESs.getD d Str.empty) := fun d h => no59_of ((show ∀ d : Fin 3, no59B (MOVESs.getD d.val Str.empty) = true by decide +kernel) ⟨d, h⟩)
theorem no59_nS : ∀ t : Nat, t ≤ 16 → No59 (nS (t : Int)) := fun t h => no59_of ((show ∀ t : Fin 17, no59B (nS (t.val : Int)) = true by decide +kernel) ⟨t, by omega⟩)
theorem no59_lit {z : Str} (h : no59B z = true := by decide +kernel) : No59 z := no59_of h
def EndS (z : Str) : Prop := ∃ a : List Nat, tl z = a ++ [59] ∧ 59 ∉ a
theorem EndS.of {z : Str} (h : No59 z) : EndS (z ++ ";") := ⟨tl z, by rw [app_tl]; rfl, h⟩
theorem getD_in {l m : List Str} (h : ∀ z ∈ l, z ∈ m) {i : Nat} (hi : i < l.length) : l.getD i Str.empty ∈ m := by
  rw [List.getD_eq_getElem?_getD, List.getElem?_eq_getElem hi]
  exact h _ (List.getElem_mem hi)
theorem line_end {p : LP} (G : GoodLP 16 p) : ∀ z ∈ lawL p, EndS z := by
  intro z hz
  have f1 := G.f1
  unfold lawL at hz
  rw [List.append_assoc, List.append_assoc, List.mem_append, List.mem_append, List.mem_append] at hz
  rcases hz with hz | hz | hz | hz
  · simp only [List.mem_cons, List.not_mem_nil, or_false] at hz
    rcases hz with rfl | rfl | rfl
    · exact .of (.app no59_lit (no59_nS _ f1.2))
    · exact .of (.app no59_lit (no59_join fun z h => no59_sg z (G.sg z h)))
    · exact .of (.app no59_lit (no59_join fun z h => no59_md z (G.md z h)))
  · obtain ⟨r, hr, rfl⟩ := List.mem_map.mp hz
    have h1 : No59 ("robot " ++ nS (r.1 : Int)) := .app no59_lit (no59_nS _ (by have := G.rb r hr; omega))
    unfold lwRob
    cases r.2 with
    | true => exact ⟨tl (("robot " ++ nS (r.1 : Int)) ++ " right"), by rw [app_tl (("robot " ++ nS (r.1 : Int))) (if true = true then " right;" else " left;"), app_tl (("robot " ++ nS (r.1 : Int))) " right", List.append_assoc]; rfl, h1.app no59_lit⟩
    | false => exact ⟨tl (("robot " ++ nS (r.1 : Int)) ++ " left"), by rw [app_tl (("robot " ++ nS (r.1 : Int))) (if false = true then " right;" else " left;"), app_tl (("robot " ++ nS (r.1 : Int))) " left", List.append_assoc]; rfl, h1.app no59_lit⟩
  · obtain ⟨t, ht, hz⟩ := List.mem_flatMap.mp hz
    have ht := List.mem_range.mp ht
    unfold lwPut at hz
    split at hz
    · rw [List.mem_singleton.mp hz]
      have hi : p.fl.getD t 0 < p.sg.length := by
        rw [List.getD_eq_getElem?_getD, List.getElem?_eq_getElem ht]
        exact G.fl _ (List.getElem_mem ht)
      exact .of (.app (.app (.app no59_lit (no59_sg _ (getD_in G.sg hi))) no59_lit) (no59_nS _ (by omega)))
    · cases hz
  · obtain ⟨x, hx, rfl⟩ := List.mem_map.mp hz
    have B := G.ru x hx
    refine .of (no59_join fun z h => ?_)
    unfold lwWords at h
    simp only [List.mem_cons, List.not_mem_nil, or_false] at h
    rcases h with rfl | rfl | rfl | rfl | rfl | rfl | rfl
    · exact no59_lit
    · exact no59_md _ (getD_in G.md B.1)
    · exact no59_sg _ (getD_in G.sg B.2.1)
    · exact no59_lit
    · exact no59_sg _ (getD_in G.sg B.2.2.1)
    · exact no59_mv _ B.2.2.2.1
    · exact no59_md _ (getD_in G.md B.2.2.2.2)
theorem semi_line : ∀ (a r : List Nat), 59 ∉ a → (∀ d s, r = d :: s → d = 32 ∨ d = 10) → Semi r → Semi (a ++ 59 :: r)
  | [], r, _, h1, h2 => by
    cases r with
    | nil => trivial
    | cons d s => exact ⟨fun _ => h1 d s rfl, h2⟩
  | [c], r, hc, h1, h2 => ⟨fun e => absurd (e ▸ List.mem_cons_self ..) hc, semi_line [] r (fun h => by cases h) h1 h2⟩
  | c :: e :: a, r, hc, h1, h2 => ⟨fun q => absurd (q ▸ List.mem_cons_self ..) hc, semi_line (e :: a) r (fun h => hc (List.mem_cons_of_mem _ h)) h1 h2⟩
theorem semi_nl {r : List Nat} (h : Semi r) : Semi (10 :: r) := by
  cases r with
  | nil => trivial
  | cons d s => exact ⟨fun e => absurd e (by decide), h⟩
theorem semi_join : ∀ L : List (List Nat), (∀ z ∈ L, ∃ a, z = a ++ [59] ∧ 59 ∉ a) → Semi (TL.joinL [10] L)
  | [], _ => trivial
  | [z], h => by
    obtain ⟨a, rfl, ha⟩ := h z (List.mem_cons_self ..)
    exact semi_line a [] ha (fun _ _ e => by cases e) trivial
  | z :: y :: L, h => by
    obtain ⟨a, rfl, ha⟩ := h z (List.mem_cons_self ..)
    rw [joinL_cons [10] _ (List.cons_ne_nil _ _), List.append_assoc]
    exact semi_line a _ ha (fun d s e => by cases e; exact .inr rfl) (semi_nl (semi_join (y :: L) fun w hw => h w (List.mem_cons_of_mem _ hw)))
theorem semi_text {p : LP} (G : GoodLP 16 p) : Semi (tl (Txt.join "\n" (lawL p))) := by
  rw [join_tl]
  refine semi_join _ fun z hz => ?_
  obtain ⟨y, hy, rfl⟩ := List.mem_map.mp hz
  exact line_end G y hy
theorem law_tx {p : LP} (G : GoodLP 16 p) : Tx (tl (Txt.join "\n" (lawL p))) (headW p ++ (robA p ++ putA p ++ ruA p).flatMap (abW p)) := by
  have tx := text_tx G (absC_abs G).ok
  rwa [← lawL_abs] at tx
theorem text_len2 {p : LP} (G : GoodLP 16 p) : (Txt.join "\n" (lawL p)).length ≤ 7000 := by
  have h1 := join_len "\n" (lawL p)
  have h2 := sum_le _ (lawL_small G)
  have h3 := lawL_count G
  rw [show ("\n" : Str).length = 1 from by decide +kernel, Nat.mul_one] at h1
  omega
/-- the words of a drawn text, with other gaps -/
theorem good_spaced {p : LP} {z : Str} (G : GoodLP 16 p) (hz : Spaced (Txt.words (Txt.replace (Txt.join "\n" (lawL p)) ";" " ;")) z) : ∃ pd ts ss, Good z pd ts ss ∧ Like p pd := by
  have hA := absC_abs G
  have r1 := G.r1
  have tx := law_tx G
  have txz := spaced_good2 tx (semi_text G) hz
  have hw := words_of2 tx (semi_text G)
  rw [hw] at hz
  have b1 := spaced_len hz
  have b2 := tx_sum tx
  have b3 := tx_len tx
  have b4 := text_len2 G
  rw [show (Txt.join "\n" (lawL p)).length = (tl (Txt.join "\n" (lawL p))).length from TL.len_tl _] at b4
  cases hr : p.rb with
  | nil => rw [hr] at r1; exact absurd r1.1 (by decide)
  | cons x r =>
    have e : robA p ++ putA p ++ ruA p = Ab.rob x.1 x.2 :: (r.map (fun r => .rob r.1 r.2) ++ putA p ++ ruA p) := by unfold robA; rw [hr]; rfl
    rw [e] at hA txz
    exact abs_good G hA (by omega) txz
/-! ### another order -/
def zK (K : List Nat) : List Ab := K.map fun k => .put 0 k
theorem zK_puts (K : List Nat) : putsOfA (zK K) = (K.map fun (k : Nat) => ((k : Int), 0)) ∧ robsOf (zK K) = [] ∧ rulesOfA (zK K) = [] := by
  have h := puts_put (K.map fun k => (0, k))
  rw [List.map_map, List.map_map] at h
  exact h
theorem good_mixed {p : LP} {K : List Nat} {los rs : List Ab} {x0 : Nat × Bool} (G : GoodLP 16 p) (hK : K.Nodup) (hKz : ∀ k ∈ K, k < p.fl.length ∧ p.fl.getD k 0 = 0) (hp : los.Perm (putA p ++ ruA p ++ zK K)) (hrob : robA p = Ab.rob x0.1 x0.2 :: rs) :
    ∃ pd ts ss, Good (Txt.join "\n" (headL p ++ (Ab.rob x0.1 x0.2 :: (los ++ rs)).map (abLine p))) pd ts ss ∧ Like p pd := by
  have r1 := G.r1
  have f1 := G.f1
  have s1 := G.s1
  have ul := G.ul
  have hKl : K.length ≤ 16 := Nat.le_trans (php p.fl.length K hK fun k hk => (hKz k hk).1) f1.2
  have hC := ab_ok G
  have hrobm : ∀ a ∈ robA p, abOK p a := fun a ha => hC a (List.mem_append_left _ (List.mem_append_left _ ha))
  have hok : ∀ a ∈ Ab.rob x0.1 x0.2 :: (los ++ rs), abOK p a := by
    intro a ha
    rcases List.mem_cons.mp ha with rfl | ha
    · exact hrobm _ (by rw [hrob]; exact List.mem_cons_self ..)
    · rcases List.mem_append.mp ha with h | h
      · rcases List.mem_append.mp (hp.mem_iff.mp h) with h | h
        · rcases List.mem_append.mp h with h | h
          · exact hC _ (List.mem_append_left _ (List.mem_append_right _ h))
          · exact hC _ (List.mem_append_right _ h)
        · obtain ⟨k, hk, rfl⟩ := List.mem_map.mp h
          exact ⟨by omega, (hKz k hk).1⟩
      · exact hrobm _ (by rw [hrob]; exact List.mem_cons_of_mem _ h)
  have hpz := putA_puts p
  have hzz := zK_puts K
  have hrr := rules_rule p.ru
  have hrb := none_rob p.rb
  have hrsP : putsOfA rs = [] := by
    have h : putsOfA (robA p) = [] := hrb.1
    rw [hrob] at h
    exact h
  have hrsR : rulesOfA rs = [] := by
    have h : rulesOfA (robA p) = [] := hrb.2
    rw [hrob] at h
    exact h
  have eP : (putsOfA (Ab.rob x0.1 x0.2 :: (los ++ rs))).Perm (putsOfA (putA p) ++ putsOfA (zK K)) := by
    show (putsOfA (los ++ rs)).Perm _
    rw [puts_app, hrsP, List.append_nil]
    refine (hp.filterMap gPut).trans ?_
    show (putsOfA (putA p ++ ruA p ++ zK K)).Perm _
    rw [puts_app, puts_app, show putsOfA (ruA p) = [] from hrr.2.2, List.append_nil]
  have eR : (rulesOfA (Ab.rob x0.1 x0.2 :: (los ++ rs))).Perm p.ru := by
    show (rulesOfA (los ++ rs)).Perm _
    rw [rules_app, hrsR, List.append_nil]
    refine (hp.filterMap gRule).trans ?_
    show (rulesOfA (putA p ++ ruA p ++ zK K)).Perm _
    rw [rules_app, rules_app, hpz.2.2, hzz.2.2, show rulesOfA (ruA p) = p.ru from hrr.1, List.append_nil, List.nil_append]
  have eB : robsOf (Ab.rob x0.1 x0.2 :: (los ++ rs)) = p.rb.map fun r => ((r.1 : Int), if r.2 then 1 else 0) := by
    have h0 : robsOf los = [] := by
      have := hp.filterMap gRob
      have e : (putA p ++ ruA p ++ zK K).filterMap gRob = [] := by
        show robsOf (putA p ++ ruA p ++ zK K) = []
        rw [robs_app, robs_app, hpz.2.1, hzz.2.1, show robsOf (ruA p) = [] from hrr.2.1]
        rfl
      rw [e] at this
      exact this.eq_nil
    have h1 : robsOf (robA p) = p.rb.map fun r => ((r.1 : Int), if r.2 then 1 else 0) := robs_rob p.rb
    rw [← h1, hrob]
    show _ :: robsOf (los ++ rs) = _ :: robsOf rs
    rw [robs_app, h0, List.nil_append]
  have hlos := hp.length_eq
  have h4 : (putA p).length ≤ 16 := by
    unfold putA
    rw [List.length_map]
    have := List.length_filter_le (fun t => decide (0 < p.fl.getD t 0)) (List.range p.fl.length)
    rw [List.length_range] at this
    omega
  have h5 : (ruA p).length ≤ 12 := by unfold ruA; rw [List.length_map]; exact ul
  have h6 : (zK K).length ≤ 16 := by unfold zK; rw [List.length_map]; exact hKl
  have h7 : rs.length + 1 ≤ 3 := by
    have := congrArg List.length hrob
    rw [List.length_cons] at this
    unfold robA at this
    rw [List.length_map] at this
    omega
  rw [List.length_append, List.length_append] at hlos
  have hA : Abs p (Ab.rob x0.1 x0.2 :: (los ++ rs)) := by
    refine ⟨hok, eB, fun x hx => ?_, fun t ht hz => ?_, ?_, eR, ?_⟩
    · rcases List.mem_append.mp (eP.mem_iff.mp hx) with h | h
      · rw [hpz.1] at h
        obtain ⟨t, ht, rfl⟩ := List.mem_map.mp h
        exact ⟨t, rfl, List.mem_range.mp (List.mem_filter.mp ht).1, rfl⟩
      · rw [hzz.1] at h
        obtain ⟨k, hk, rfl⟩ := List.mem_map.mp h
        exact ⟨k, rfl, (hKz k hk).1, (hKz k hk).2.symm⟩
    · refine eP.mem_iff.mpr (List.mem_append_left _ ?_)
      rw [hpz.1]
      exact List.mem_map.mpr ⟨t, List.mem_filter.mpr ⟨List.mem_range.mpr ht, decide_eq_true hz⟩, rfl⟩
    · refine ((eP.map (·.1)).nodup_iff).mpr ?_
      rw [List.map_append, hpz.1, hzz.1, List.map_map, List.map_map]
      refine List.nodup_append.mpr ⟨?_, ?_, ?_⟩
      · exact List.pairwise_map.mpr (List.Pairwise.filter _ (List.nodup_range.imp fun {a b} q e => q (Int.ofNat.inj e)))
      · exact List.pairwise_map.mpr (hK.imp fun {a b} q e => q (Int.ofNat.inj e))
      · intro u hu v hv e
        obtain ⟨t, ht, rfl⟩ := List.mem_map.mp hu
        obtain ⟨k, hk, rfl⟩ := List.mem_map.mp hv
        have h1 := of_decide_eq_true (List.mem_filter.mp ht).2
        have h2 := (hKz k hk).2
        have e2 : t = k := Int.ofNat.inj e
        rw [e2] at h1
        omega
    · rw [List.length_cons, List.length_append]
      omega
  refine abs_good G hA ?_ (text_tx G hok)
  have c1 := join_len "\n" (headL p ++ (Ab.rob x0.1 x0.2 :: (los ++ rs)).map (abLine p))
  have c2 := sum_le (n := 200) (headL p ++ (Ab.rob x0.1 x0.2 :: (los ++ rs)).map (abLine p)) fun z hz => by
    have hl : ∀ a ∈ robA p ++ putA p ++ ruA p, (abLine p a).length ≤ 200 := fun a ha => lawL_small G _ (by rw [lawL_abs]; exact List.mem_append_right _ (List.mem_map_of_mem ha))
    rcases List.mem_append.mp hz with hz | hz
    · exact lawL_small G z (by rw [lawL_abs]; exact List.mem_append_left _ hz)
    · obtain ⟨a, ha, rfl⟩ := List.mem_map.mp hz
      rcases List.mem_cons.mp ha with rfl | ha
      · exact hl _ (List.mem_append_left _ (List.mem_append_left _ (by rw [hrob]; exact List.mem_cons_self ..)))
      · rcases List.mem_append.mp ha with h | h
        · rcases List.mem_append.mp (hp.mem_iff.mp h) with h | h
          · rcases List.mem_append.mp h with h | h
            · exact hl _ (List.mem_append_left _ (List.mem_append_right _ h))
            · exact hl _ (List.mem_append_right _ h)
          · obtain ⟨k, hk, rfl⟩ := List.mem_map.mp h
            obtain ⟨z1, z2, z3, z4, z5, z6, z7, z8, z9, z10, z11⟩ := lits2
            have n2 := nS_len k (by have := (hKz k hk).1; omega)
            have n3 := getD_len (sg_len G) (show 0 < p.sg.length by omega)
            show (lwPutS (p.sg.getD 0 Str.empty) k).length ≤ 200
            unfold lwPutS
            simp only [slen_app]
            omega
        · exact hl _ (List.mem_append_left _ (List.mem_append_left _ (by rw [hrob]; exact List.mem_cons_of_mem _ h)))
  rw [List.length_append, List.length_map, List.length_cons, List.length_append, show (headL p).length = 3 from rfl] at c1 c2
  rw [show ("\n" : Str).length = 1 from by decide +kernel, Nat.mul_one] at c1
  omega
end Sw

/-! A plan is told by its bytes, and by its text. -/
namespace Sw
open PySem L2
theorem ltr_inj : ∀ {l m : List Nat}, (∀ c ∈ l, 97 ≤ c ∧ c < 123) → (∀ c ∈ m, 97 ≤ c ∧ c < 123) → l.length = m.length → ∀ {r r' : List Int}, l.map ltrB ++ r = m.map ltrB ++ r' → l = m ∧ r = r'
  | [], [], _, _, _, _, _, e => ⟨rfl, e⟩
  | [], _ :: _, _, _, h, _, _, _ => by cases h
  | _ :: _, [], _, _, h, _, _, _ => by cases h
  | c :: l, d :: m, hl, hm, h, _, _, e => by
    rw [List.map_cons, List.map_cons, List.cons_append, List.cons_append, List.cons.injEq] at e
    have h1 := hl c (List.mem_cons_self ..)
    have h2 := hm d (List.mem_cons_self ..)
    have e1 : c = d := by
      have := e.1
      unfold ltrB at this
      omega
    obtain ⟨e2, e3⟩ := ltr_inj (fun x hx => hl x (List.mem_cons_of_mem _ hx)) (fun x hx => hm x (List.mem_cons_of_mem _ hx)) (by simpa using h) e.2
    exact ⟨by rw [e1, e2], e3⟩
theorem word_inj {z y : Str} (hz : NameOk z) (hy : NameOk y) {r r' : List Int} (e : wordB z ++ r = wordB y ++ r') : z = y ∧ r = r' := by
  unfold wordB at e
  rw [List.cons_append, List.cons_append, List.cons.injEq] at e
  have hl : z.cps.toList.length = y.cps.toList.length := by
    rw [Array.length_toList, Array.length_toList]
    have h : ((z.length : Nat) : Int) = ((y.length : Nat) : Int) := e.1
    show z.length = y.length
    omega
  obtain ⟨e1, e2⟩ := ltr_inj hz.c hy.c hl e.2
  exact ⟨TL.ext_tl e1, e2⟩
theorem words_inj : ∀ {l m : List Str}, (∀ z ∈ l, NameOk z) → (∀ z ∈ m, NameOk z) → l.length = m.length → ∀ {r r' : List Int}, l.flatMap wordB ++ r = m.flatMap wordB ++ r' → l = m ∧ r = r'
  | [], [], _, _, _, _, _, e => ⟨rfl, e⟩
  | [], _ :: _, _, _, h, _, _, _ => by cases h
  | _ :: _, [], _, _, h, _, _, _ => by cases h
  | z :: l, y :: m, hl, hm, h, _, _, e => by
    rw [List.flatMap_cons, List.flatMap_cons, List.append_assoc, List.append_assoc] at e
    obtain ⟨e1, e2⟩ := word_inj (hl z (List.mem_cons_self ..)) (hm y (List.mem_cons_self ..)) e
    obtain ⟨e3, e4⟩ := words_inj (fun x hx => hl x (List.mem_cons_of_mem _ hx)) (fun x hx => hm x (List.mem_cons_of_mem _ hx)) (by simpa using h) e2
    exact ⟨by rw [e1, e3], e4⟩
theorem names_inj {l m : List Str} (hl : ∀ z ∈ l, NameOk z) (hm : ∀ z ∈ m, NameOk z) {r r' : List Int} (e : namesB l ++ r = namesB m ++ r') : l = m ∧ r = r' := by
  unfold namesB at e
  rw [List.cons_append, List.cons_append, List.cons.injEq] at e
  exact words_inj hl hm (by have := e.1; omega) e.2
theorem flat_inj {α : Type} {f : α → List Int} {n : Nat} (hn : ∀ x, (f x).length = n) (hf : ∀ x y, f x = f y → x = y) : ∀ {l m : List α}, l.length = m.length → ∀ {r r' : List Int}, l.flatMap f ++ r = m.flatMap f ++ r' → l = m ∧ r = r'
  | [], [], _, _, _, e => ⟨rfl, e⟩
  | [], _ :: _, h, _, _, _ => by cases h
  | _ :: _, [], h, _, _, _ => by cases h
  | x :: l, y :: m, h, _, _, e => by
    rw [List.flatMap_cons, List.flatMap_cons, List.append_assoc, List.append_assoc] at e
    obtain ⟨e1, e2⟩ := List.append_inj e (by rw [hn, hn])
    obtain ⟨e3, e4⟩ := flat_inj hn hf (by simpa using h) e2
    exact ⟨by rw [hf _ _ e1, e3], e4⟩
theorem rob_inj (x y : Nat × Bool) (e : robB x = robB y) : x = y := by
  unfold robB at e
  simp only [List.cons.injEq, and_true] at e
  obtain ⟨a, b⟩ := x
  obtain ⟨c, d⟩ := y
  dsimp only at e
  have h1 : a = c := by omega
  have h2 : b = d := by cases b <;> cases d <;> simp at e <;> first | rfl | omega
  rw [h1, h2]
theorem ru_inj (x y : (Nat × Nat) × Nat × Nat × Nat) (e : ruB x = ruB y) : x = y := by
  unfold ruB at e
  simp only [List.cons.injEq, and_true] at e
  obtain ⟨⟨a, b⟩, c, d, f⟩ := x
  obtain ⟨⟨a', b'⟩, c', d', f'⟩ := y
  dsimp only at e
  rw [show a = a' by omega, show b = b' by omega, show c = c' by omega, show d = d' by omega, show f = f' by omega]
theorem floor_inj : ∀ {l m : List Nat}, floorB l = floorB m → l = m
  | [], [], _ => rfl
  | [], _ :: _, e => by cases e
  | _ :: _, [], e => by cases e
  | x :: l, y :: m, e => by
    unfold floorB at e
    rw [List.map_cons, List.map_cons, List.cons.injEq] at e
    rw [show x = y by have := e.1; omega, floor_inj (l := l) (m := m) e.2]
theorem code_inj {p q : LP} (G : GoodLP 16 p) (G' : GoodLP 16 q) (e : codeB p = codeB q) : p = q := by
  have nm : ∀ {p : LP}, GoodLP 16 p → (∀ z ∈ p.sg, NameOk z) ∧ (∀ z ∈ p.md, NameOk z) := fun G => ⟨fun z hz => name_sg z (G.sg z hz), fun z hz => name_md z (G.md z hz)⟩
  have hf : ∀ p : LP, codeB p = (82 : Int) :: (p.fl.length : Int) :: (namesB p.sg ++ (namesB p.md ++ ((p.rb.length : Int) :: (p.rb.flatMap robB ++ (floorB p.fl ++ ((p.ru.length : Int) :: (p.ru.flatMap ruB ++ [(bodyB p).sum % 256]))))))) := fun p => by
    unfold codeB bodyB
    simp [List.append_assoc]
  rw [hf p, hf q, List.cons.injEq, List.cons.injEq] at e
  obtain ⟨_, e1, e⟩ := e
  obtain ⟨e2, e⟩ := names_inj (nm G).1 (nm G').1 e
  obtain ⟨e3, e⟩ := names_inj (nm G).2 (nm G').2 e
  rw [List.cons.injEq] at e
  obtain ⟨e4, e⟩ := e
  obtain ⟨e5, e⟩ := flat_inj (n := 2) (fun _ => rfl) rob_inj (by omega) e
  obtain ⟨e6, e⟩ := List.append_inj e (by unfold floorB; rw [List.length_map, List.length_map]; omega)
  rw [List.cons.injEq] at e
  obtain ⟨e7, e⟩ := e
  obtain ⟨e8, _⟩ := flat_inj (n := 5) (fun _ => rfl) ru_inj (by omega) e
  have e9 := floor_inj e6
  obtain ⟨a, b, c, d, f⟩ := p
  obtain ⟨a', b', c', d', f'⟩ := q
  dsimp only at e2 e3 e5 e8 e9
  rw [e2, e3, e5, e8, e9]
theorem good_one {z : Str} {pd pd' : PlanD} {ts ts' : List Tk} {ss ss' : List Stm} (g : Good z pd ts ss) (g' : Good z pd' ts' ss') : pd = pd' := by
  have e1 := g.tok.2.2.2.symm.trans g'.tok.2.2.2
  have e1 := Option.some.inj e1
  subst e1
  have e2 := Option.some.inj (g.par.symm.trans g'.par)
  subst e2
  exact Option.some.inj (g.add.symm.trans g'.add)
theorem ru_eq {l m : List ((Nat × Nat) × Nat × Nat × Nat)} (h : l.Perm m) (h1 : (l.map (·.1)).Pairwise ltN) (h2 : (m.map (·.1)).Pairwise ltN) : l = m := by
  have hn := ltN_nodup h1
  refine List.Perm.eq_of_pairwise (le := fun x y => lexN x.1 y.1) (fun x y hx hy e1 e2 => ?_) (List.pairwise_map.mp (ltN_lex h1)) (List.pairwise_map.mp (ltN_lex h2)) h
  have e : x.1 = y.1 := by
    unfold lexN at e1 e2
    refine Prod.ext ?_ ?_ <;> omega
  have hy' := h.mem_iff.mpr hy
  have a1 := ruleAt_of hn hx
  have a2 := ruleAt_of hn hy'
  rw [e, a2] at a1
  have := Option.some.inj a1
  exact Prod.ext e this.symm
theorem text_inj {p q : LP} (G : GoodLP 16 p) (G' : GoodLP 16 q) (e : Txt.join "\n" (lawL p) = Txt.join "\n" (lawL q)) : p = q := by
  obtain ⟨pd, ts, ss, g, L⟩ := good_text G
  obtain ⟨pd', ts', ss', g', L'⟩ := good_text G'
  rw [e] at g
  have ep := good_one g g'
  subst ep
  have e1 := L.sg.symm.trans L'.sg
  have e2 := L.md.symm.trans L'.md
  have e3 : p.fl.length = q.fl.length := by have := L.sz.symm.trans L'.sz; omega
  have e4 : p.rb = q.rb := by
    have h := L.rb.symm.trans L'.rb
    refine map_inj' (f := fun r : Nat × Bool => ((r.1 : Int), if r.2 then 1 else 0)) (fun x y h => ?_) h
    obtain ⟨a, b⟩ := x
    obtain ⟨c, d⟩ := y
    have h1 := congrArg Prod.fst h
    have h2 := congrArg Prod.snd h
    dsimp only at h1 h2
    have h1' : a = c := by omega
    have h2' : b = d := by cases b <;> cases d <;> simp at h2 <;> rfl
    rw [h1', h2']
  have e5 : p.fl = q.fl := by
    apply List.ext_getElem e3
    intro t h1 h2
    have d1 : p.fl.getD t 0 = p.fl[t] := by rw [List.getD_eq_getElem?_getD, List.getElem?_eq_getElem h1]; rfl
    have d2 : q.fl.getD t 0 = q.fl[t] := by rw [List.getD_eq_getElem?_getD, List.getElem?_eq_getElem h2]; rfl
    rw [← d1, ← d2]
    by_cases z : 0 < p.fl.getD t 0
    · obtain ⟨u, hu1, hu2, hu3⟩ := L'.p1 _ (L.p2 t h1 z)
      have : t = u := by have h : ((t : Nat) : Int) = (u : Int) := hu1; omega
      rw [this]; rw [this] at hu3; exact hu3
    · by_cases y : 0 < q.fl.getD t 0
      · obtain ⟨u, hu1, hu2, hu3⟩ := L.p1 _ (L'.p2 t h2 y)
        have : t = u := by have h : ((t : Nat) : Int) = (u : Int) := hu1; omega
        rw [this]; rw [this] at hu3; exact hu3.symm
      · omega
  have e6 : p.ru = q.ru := ru_eq (L.rl.symm.trans L'.rl) G.up G'.up
  obtain ⟨a, b, c, d, f⟩ := p
  obtain ⟨a', b', c', d', f'⟩ := q
  dsimp only at e1 e2 e4 e5 e6
  rw [e1, e2, e4, e5, e6]
end Sw

/-! Two values are the same. -/
namespace Sw
open PySem L2
def Sc (x : V) : Prop := x = .non ∨ (∃ b, x = .bl b) ∨ (∃ i, x = .int i) ∨ ∃ z, x = .str z
def EqD (H : Hp) : Nat → V → V → Prop
  | 0, _, _ => False
  | n + 1, x, y => (x = y ∧ Sc x) ∨ ∃ a b xs ys, x = .ref a ∧ y = .ref b ∧ ((H a = some (.lst xs) ∧ H b = some (.lst ys)) ∨ (H a = some (.tup xs) ∧ H b = some (.tup ys))) ∧ Paired (EqD H n) xs ys ∧ xs.length ≤ 9000
theorem EqD.mono {H H' : Hp} (s : Same H H') : ∀ {n : Nat} {x y : V}, EqD H n x y → EqD H' n x y
  | 0, _, _, h => h
  | n + 1, x, y, h => by
    rcases h with h | ⟨a, b, xs, ys, e1, e2, h, hp, hl⟩
    · exact .inl h
    · refine .inr ⟨a, b, xs, ys, e1, e2, ?_, Paired.mapP hp fun _ _ e => EqD.mono s e, hl⟩
      rcases h with ⟨h1, h2⟩ | ⟨h1, h2⟩
      · exact .inl ⟨s _ _ h1, s _ _ h2⟩
      · exact .inr ⟨s _ _ h1, s _ _ h2⟩
def spEq (n : Nat) : Sp := fun vs H Q _ => ∃ x y, vs = [x, y] ∧ EqD H n x y ∧ ∀ H', Same H H' → Q (.bl true) H'
def sp_l_equal (K : PySem.W.Frag) (a : Adr) : Sp := spEq 4
theorem r_isi {K : PySem.W.Frag} {H : Hp} {Q : VK} {x : V} {a b : String} {r : Bool} (ty : TyX K H x (.type a)) (h : kitB a b = some r) (q : Q (.bl r) H) : rIsi K [x, .ty b] H Q := ⟨x, .ty b, _, _, r, rfl, ClsV.ty b, ty, kit_ty h, q⟩
theorem r_yes {σ : St} {H : Hp} {QB : Bool → Hp → Prop} (h : QB true H) : tYes σ H QB := h
theorem r_ixA {K : PySem.W.Frag} {H : Hp} {Q : VK} {p : Addr} {xs : List V} {n : Int} {v : V} (e : SqL K H p xs ∨ SqT K H p xs) (h : atI xs n = some v) (q : Q v H) : rIx K (.ref p) (.int n) H Q := by
  rcases e with e | e
  · exact .inl ⟨p, xs, n, v, rfl, rfl, e, h, q⟩
  · exact .inr (.inl ⟨p, xs, n, v, rfl, rfl, e, h, q⟩)
section
variable {P : Program} {w : World} {K : PySem.W.Frag} {mg : Str → Option Value} {base : Heap} {a : Adr}
end
end Sw

/-! Whether a value is an integer. -/
namespace Sw
open PySem L2
def sp_is_integer (K : PySem.W.Frag) (a : Adr) : Sp := fun vs H Q _ => ∃ n : Int, vs = [.int n] ∧ Q (.bl true) H
section
variable {P : Program} {w : World} {K : PySem.W.Frag} {mg : Str → Option Value} {base : Heap} {a : Adr}
theorem ok_is_integer {f : Addr} {fd : FuncData} (F : Fun K "is_integer" "is_integer" s_is_integer f fd) (T : Txt w K mg a)
     :
    FnOk P w K mg base CX0 1 f fd ps_is_integer (sp_is_integer K a) := by
  refine F.ok sc_is_integer (fun vs H Q E h => ?_) (fun cdv A outer s H vs Q E hr h => ?_)
  · obtain ⟨n, rfl, k⟩ := h
    rfl
  obtain ⟨n, rfl, k⟩ := h
  have hu := hu_of hr
  refine ⟨_, 
    (pss_one (ps_ret (pe_and (pe_callB call_isi (by rfl) T.n_isinstance (by decide +kernel) (pa_cons (pv 0) (pa_cons (ptT (n := "int") (by rfl) T.n_int (by decide +kernel)) pa_nil))) (pe_one (pe_not (pe_callB call_isi (by rfl) T.n_isinstance (by decide +kernel) (pa_cons (pv 0) (pa_cons (ptT (n := "bool") (by rfl) T.n_bool (by decide +kernel)) pa_nil)))))))), ?_⟩
  repeat walk_at "st"
  refine r_andV ?_
  repeat walk_at "st"
  refine r_isi (r := true) (TyX.base (.int _)) (by decide +kernel) ?_
  repeat walk_at "st"
  refine iteT ?_
  repeat walk_at "st"
  refine r_isi (r := false) (TyX.base (.int _)) (by decide +kernel) ?_
  repeat walk_at "st"
  exact k
end
end Sw

/-! The reader of bytes. -/
namespace Sw
open PySem L2
def RdB (a : Adr) (H : Hp) (q c : Addr) (n : Nat) : Prop := ∃ dx, H q = some (.ins a.cByteReader dx [("code", .ref c), ("place", .int (n : Int))])
def sp_ByteReader_init (K : PySem.W.Frag) (a : Adr) : Sp := fun vs H Q _ => ∃ (p dx c : Addr), vs = [.ref p, .ref c] ∧ H p = some (.ins a.cByteReader dx []) ∧ ∀ H', RdB a H' p c 0 → Keep p H H' → Q .non H'
def sp_ByteReader_take (K : PySem.W.Frag) (a : Adr) : Sp := fun vs H Q _ => ∃ (q c : Addr) (xs : List Int) (n : Nat) (v lo hi : Int), vs = [.ref q, .int lo, .int hi] ∧ RdB a H q c n ∧ H c = some (.lst (xs.map V.int)) ∧ xs.length ≤ 5000 ∧ xs[n]? = some v ∧ lo ≤ v ∧ v ≤ hi ∧
  ∀ H', RdB a H' q c (n + 1) → Keep q H H' → Q (.int v) H'
def sp_ByteReader_end (K : PySem.W.Frag) (a : Adr) : Sp := fun vs H Q _ => ∃ (q c : Addr) (xs : List Int), vs = [.ref q] ∧ RdB a H q c xs.length ∧ H c = some (.lst (xs.map V.int)) ∧ Q .non H
def sp_read_name (K : PySem.W.Frag) (a : Adr) : Sp := fun vs H Q _ => ∃ (q c : Addr) (xs rest : List Int) (n : Nat) (z : Str), vs = [.ref q] ∧ RdB a H q c n ∧ H c = some (.lst (xs.map V.int)) ∧ xs.length ≤ 5000 ∧ xs.drop n = wordB z ++ rest ∧ NameOk z ∧
  ∀ H', RdB a H' q c (n + (wordB z).length) → Keep q H H' → Q (.str z) H'
def sp_read_names_encoding (K : PySem.W.Frag) (a : Adr) : Sp := fun vs H Q _ => ∃ (q c : Addr) (xs rest : List Int) (n most : Nat) (zs : List Str), vs = [.ref q, .int (most : Int)] ∧ RdB a H q c n ∧ H c = some (.lst (xs.map V.int)) ∧ xs.length ≤ 5000 ∧ xs.drop n = namesB zs ++ rest ∧
  (∀ z ∈ zs, NameOk z) ∧ zs.Nodup ∧ 1 ≤ zs.length ∧ zs.length ≤ most ∧ most ≤ 100 ∧
  ∀ H' l, RdB a H' q c (n + (namesB zs).length) → Keep q H H' → H l = none → H' l = some (.lst (zs.map V.str)) → Q (.ref l) H'
theorem drop_at {xs ys rest : List Int} {n i : Nat} {v : Int} (h : xs.drop n = ys ++ rest) (hv : ys[i]? = some v) : xs[n + i]? = some v := by
  have hi := (List.getElem?_eq_some_iff.mp hv).1
  rw [← List.getElem?_drop, h, List.getElem?_append_left hi, hv]
theorem drop_more {xs ys rest : List Int} {n : Nat} (h : xs.drop n = ys ++ rest) : xs.drop (n + ys.length) = rest := by
  rw [← List.drop_drop, h, List.drop_left]
theorem RdB.ne {a : Adr} {H : Hp} {q c b : Addr} {n : Nat} {o : HO} (h : RdB a H q c n) (e : H b = some o) (hn : ∀ C d fs, o ≠ .ins C d fs) : b ≠ q := fun z => by
  obtain ⟨dx, h⟩ := h
  rw [z, h] at e
  cases e
  exact hn _ _ _ rfl
theorem RdB.mono {a : Adr} {H H' : Hp} {q c : Addr} {n : Nat} (h : RdB a H q c n) (s : Same H H') : RdB a H' q c n := let ⟨dx, e⟩ := h; ⟨dx, s _ _ e⟩
theorem keep_of {q : Addr} {H H' : Hp} (s : Same (Less q H) H') : Keep q H H' := fun b o e n => s _ _ (Less_at e n)
theorem fs_put (c : Addr) (n : Int) : putF "place" (.int n) (putF "code" (.ref c) []) = ([("code", .ref c), ("place", .int n)] : List (Str × V)) := by
  simp only [putF, if_neg (show ¬ (("code" : Str) = "place") by decide +kernel)]
theorem fs_put2 (c : Addr) (x y : V) : putF "place" y [("code", .ref c), ("place", x)] = ([("code", .ref c), ("place", y)] : List (Str × V)) := by
  simp only [putF, if_neg (show ¬ (("code" : Str) = "place") by decide +kernel), if_pos]
section
variable {P : Program} {w : World} {K : PySem.W.Frag} {mg : Str → Option Value} {base : Heap} {a : Adr}
theorem ok_ByteReader_init {f : Addr} {fd : FuncData} (F : Fun K "__init__" "ByteReader.__init__" s_ByteReader_init f fd) (T : Txt w K mg a)
     :
    FnOk P w K mg base CX0 1 f fd ps_ByteReader_init (sp_ByteReader_init K a) := by
  refine F.ok sc_ByteReader_init (fun vs H Q E h => ?_) (fun cdv A outer s H vs Q E hr h => ?_)
  · obtain ⟨p, dx, c, rfl, hp, k⟩ := h
    rfl
  obtain ⟨p, dx, c, rfl, hp, k⟩ := h
  have hu := hu_of hr
  refine ⟨_, 
    (pss_cons (ps_fld (pv 0) (pv 1) rfl) 
    (pss_one (ps_fld (pv 0) pe_int rfl))), ?_⟩
  repeat walk_at "st"
  refine r_sfldOf hp T.cl_ByteReader T.n_ByteReader_code (by decide) ?_
  repeat walk_at "st"
  refine r_sfldOf (upd_same) T.cl_ByteReader T.n_ByteReader_place (Nat.lt_of_le_of_lt (length_putF _ _ _) (by decide)) ?_
  repeat walk_at "st"
  refine k _ ⟨dx, ?_⟩ fun b o e n => ?_
  · rw [upd_same]
    exact congrArg (fun l => some (HO.ins a.cByteReader dx l)) (fs_put c 0)
  · rw [upd_ne n, upd_ne n]
    exact e
theorem ok_ByteReader_take {f : Addr} {fd : FuncData} (F : Fun K "take" "ByteReader.take" s_ByteReader_take f fd) (T : Txt w K mg a)
    {f_is_integer : Addr} {fd_is_integer : FuncData} (G_is_integer : Cal P w K mg base "is_integer" 1 f_is_integer fd_is_integer ps_is_integer (sp_is_integer K a)) :
    FnOk P w K mg base CX0 2 f fd ps_ByteReader_take (sp_ByteReader_take K a) := by
  refine F.ok sc_ByteReader_take (fun vs H Q E h => ?_) (fun cdv A outer s H vs Q E hr h => ?_)
  · obtain ⟨q, c, xs, n, v, lo, hi, rfl, ⟨dx, hq⟩, hc, hl, hv, hlo, hhi, k⟩ := h
    rfl
  obtain ⟨q, c, xs, n, v, lo, hi, rfl, ⟨dx, hq⟩, hc, hl, hv, hlo, hhi, k⟩ := h
  have hu := hu_of hr
  refine ⟨_, 
    (pss_cons (ps_if (pt_cmpR op_eq (pe_fld (pv 0) rfl) (pe_callB call_len_seq (by rfl) T.n_len PySem.boot_len (pa_cons (pe_fld (pv 0) rfl) pa_nil)) (nomark _)) 
      (pss_one ps_never) pss_nil) 
    (pss_cons (ps_set (i := 3) sc_ByteReader_take.nd rfl (.inl rfl) (pe_ix ix_list (pe_fld (pv 0) rfl) (pe_fld (pv 0) rfl) (fun _ _ => rfl))) 
    (pss_cons (ps_if (PW.pt (pw_or (pt_not (pt_val (pe_call G_is_integer.ok (hr.mono (by decide)) rfl G_is_integer.mg' G_is_integer.kp G_is_integer.b .nil pass0 (pa_cons (pv 3) pa_nil)))) (pw_or1 (pt_not (pt_chain op_le op_le (pv 1) (pv 3) (pv 2)))))) 
      (pss_one ps_never) pss_nil) 
    (pss_cons (ps_fldaug (pv 0) pe_int in_add) 
    (pss_one (ps_ret (pv 3))))))), ?_⟩
  have szl : 10000 ≤ sizeLine := by decide
  have hn : n < xs.length := (List.getElem?_eq_some_iff.mp hv).1
  repeat walk_at "st"
  refine r_fldOf hq T.cl_ByteReader T.n_ByteReader_place rfl ?_
  repeat walk_at "st"
  refine r_fldOf hq T.cl_ByteReader T.n_ByteReader_code rfl ?_
  refine r_lenL (.inl (SqL.of hc)) ?_
  repeat walk_at "ni"
  rw [List.length_map, dec_int, decide_eq_false (show ¬ ((n : Int) = ((xs.length : Nat) : Int)) by omega)]
  refine iteF ?_
  repeat walk_at "st"
  refine r_fldOf hq T.cl_ByteReader T.n_ByteReader_code rfl ?_
  repeat walk_at "st"
  refine r_fldOf hq T.cl_ByteReader T.n_ByteReader_place rfl ?_
  refine r_ixL (SqL.of hc) (nat_at (x := .int v) (by rw [List.getElem?_map, hv]; rfl)) ?_
  repeat walk_at "st"
  refine r_or2' (fun QB q => ?_) ?_
  · repeat walk_at "st"
    refine ⟨v, rfl, ?_⟩
    repeat walk_at "st"
    exact q
  repeat walk_at "st"
  refine ite_b (p := lo ≤ v) rfl (fun _ => ?_) fun h => absurd hlo h
  repeat walk_at "st"
  rw [decide_eq_true hhi]
  refine iteF ?_
  repeat walk_at "st"
  refine r_fldAug ?_
  repeat walk_at "st"
  refine ⟨q, _, _, _, _, rfl, hq, T.cl_ByteReader, T.n_ByteReader_place, rfl, ?_⟩
  repeat walk_at "st"
  refine r_rAdd ⟨dx, _, hq, (by show 2 < 1000; decide), ?_⟩
  rw [fs_put2]
  repeat walk_at "st"
  exact k _ ⟨dx, upd_same⟩ fun b o e n => upd_kept e n
theorem ok_ByteReader_end {f : Addr} {fd : FuncData} (F : Fun K "end" "ByteReader.end" s_ByteReader_end f fd) (T : Txt w K mg a)
     :
    FnOk P w K mg base CX0 1 f fd ps_ByteReader_end (sp_ByteReader_end K a) := by
  refine F.ok sc_ByteReader_end (fun vs H Q E h => ?_) (fun cdv A outer s H vs Q E hr h => ?_)
  · obtain ⟨q, c, xs, rfl, ⟨dx, hq⟩, hc, k⟩ := h
    rfl
  obtain ⟨q, c, xs, rfl, ⟨dx, hq⟩, hc, k⟩ := h
  have hu := hu_of hr
  refine ⟨_, 
    (pss_one (ps_if (pt_cmpR op_lt (pe_fld (pv 0) rfl) (pe_callB call_len_seq (by rfl) T.n_len PySem.boot_len (pa_cons (pe_fld (pv 0) rfl) pa_nil)) (nomark _)) 
      (pss_one ps_never) pss_nil)), ?_⟩
  repeat walk_at "st"
  refine r_fldOf hq T.cl_ByteReader T.n_ByteReader_place rfl ?_
  repeat walk_at "st"
  refine r_fldOf hq T.cl_ByteReader T.n_ByteReader_code rfl ?_
  refine r_lenL (.inl (SqL.of hc)) ?_
  repeat walk_at "ni"
  rw [List.length_map, decide_eq_false (show ¬ (((xs.length : Nat) : Int) < ((xs.length : Nat) : Int)) by omega)]
  refine iteF ?_
  repeat walk_at "st"
  exact k
theorem ok_read_name {f : Addr} {fd : FuncData} (F : Fun K "read_name" "read_name" s_read_name f fd) (T : Txt w K mg a)
    {f_ByteReader_take : Addr} {fd_ByteReader_take : FuncData} (ME_ByteReader_take : Meth K a.cByteReader "take" f_ByteReader_take) (G_ByteReader_take : CalM P w K mg base 2 f_ByteReader_take fd_ByteReader_take ps_ByteReader_take (sp_ByteReader_take K a)) :
    FnOk P w K mg base CX0 3 f fd ps_read_name (sp_read_name K a) := by
  refine F.ok sc_read_name (fun vs H Q E h => ?_) (fun cdv A outer s H vs Q E hr h => ?_)
  · obtain ⟨q, c, xs, rest, n, z, rfl, hR, hc, hl, hd, hz, k⟩ := h
    rfl
  obtain ⟨q, c, xs, rest, n, z, rfl, hR, hc, hl, hd, hz, k⟩ := h
  have hu := hu_of hr
  refine ⟨_, 
    (pss_cons (ps_set (i := 1) sc_read_name.nd rfl (.inl rfl) (pe_meth (pv 0) T.cl_ByteReader ME_ByteReader_take G_ByteReader_take.ok (hr.mono (by decide)) G_ByteReader_take.b .nil pass0 (pa_cons pe_int (pa_cons (pgI rfl T.g_LONGEST_WORD) pa_nil)))) 
    (pss_one (ps_ret (pe_join pe_str (pe_lc (own := [("_", 2)]) (tt := tYes) rfl sc_read_name.nd (pi_range1 (by rfl) T.n_range (pa_cons (pv 1) pa_nil)) (blkOk_by (own := [("_", 2)]) (N := nm_read_name) (sc := defScope s_read_name) (by decide +kernel)) (fun _ _ _ _ _ => pg_name (i := 2) sc_read_name.nd rfl (.inl rfl)) (fun _ _ _ _ _ => pts_nil) (fun _ _ _ _ _ => (pe_ix (show IxR _ (rIxS) from ix_str) (pgS rfl T.g_LETTERS) (pe_meth (pv 0) T.cl_ByteReader ME_ByteReader_take G_ByteReader_take.ok (hr.mono (by decide)) G_ByteReader_take.b .nil pass0 (pa_cons pe_int (pa_cons (pe_op op_sub (pe_callB call_len_str (by rfl) T.n_len PySem.boot_len (pa_cons (pgS rfl T.g_LETTERS) pa_nil)) pe_int) pa_nil))) (fun _ _ => rfl)))))))), ?_⟩
  have szl : 10000 ≤ sizeLine := by decide
  have hz1 := hz.l
  have hzs : z.cps.toList.length = z.length := Array.length_toList
  obtain ⟨dx, hq⟩ := id hR
  have hcq := hR.ne hc (by intro _ _ _ z; cases z)
  repeat walk_at "st"
  refine ⟨q, _, _, rfl, hq, rfl, ?_⟩
  repeat walk_at "st"
  refine ⟨q, c, xs, n, (z.length : Int), 1, 8, rfl, hR, hc, hl, drop_at (i := 0) hd rfl, by omega, by omega, fun H1 hR1 kp1 => ?_⟩
  have s1 : Same (Less q H) H1 := kp_from Less_same Less_none kp1
  have hc1 := kp1 _ _ hc hcq
  repeat walk_at "st"
  refine r_lc ?_
  repeat walk_at "st"
  refine ⟨_, rfl, by omega, by omega, fun D nD => ?_⟩
  have nDq : D ≠ q := fun e => by
    obtain ⟨dx1, e1⟩ := hR1
    rw [e, e1] at nD
    cases nD
  rw [Int.toNat_natCast]
  refine lc_range (n := z.length) (fun i H3 => RdB a H3 q c (n + 1 + i) ∧ Same (Less q H1) H3 ∧ H3 D = some (.lst (((z.cps.toList.take i).map fun c => (⟨#[c]⟩ : Str)).map V.str))) ⟨hR1.mono (Same.new nD), Less_same.trans (Same.new nD), upd_same⟩ ?_ ?_
  · rintro i H3 hi ⟨hR3, s3, g3⟩
    obtain ⟨ch, hch⟩ : ∃ ch, z.cps.toList[i]? = some ch := ⟨_, List.getElem?_eq_getElem (by omega)⟩
    have hcb := hz.c ch (List.mem_of_getElem? hch)
    obtain ⟨dx3, hq3⟩ := id hR3
    refine r_gname ?_
    refine ⟨rfl, ?_⟩
    refine r_yes' ?_
    refine iteT ?_
    repeat walk_at "st"
    refine ⟨q, _, _, rfl, hq3, rfl, ?_⟩
    repeat walk_at "st"
    have hlet : ((LET26.length : Nat) : Int) = 26 := by rw [let_len]; rfl
    refine r_len (show LET26.length ≤ sizeLine by rw [let_len]; omega) ?_
    repeat walk_at "st"
    refine ⟨q, c, xs, n + 1 + i, ltrB ch, 0, _, rfl, hR3, s3 _ _ (Less_at hc1 hcq), hl, ?_, ?_, ?_, fun H4 hR4 kp4 => ?_⟩
    · rw [show n + 1 + i = n + (1 + i) by omega]
      refine drop_at hd ?_
      rw [show 1 + i = i + 1 by omega]
      show (z.cps.toList.map ltrB)[i]? = _
      rw [List.getElem?_map, hch]
      rfl
    · unfold ltrB; omega
    · show ltrB ch ≤ ((LET26.length : Nat) : Int) - 1
      rw [hlet]
      unfold ltrB
      omega
    have s4 : Same (Less q H1) H4 := kp_from s3 Less_none kp4
    repeat walk_at "st"
    refine r_ixS (show LET26.length ≤ sizeLine by rw [let_len]; omega) (let_at hcb.1 hcb.2) ?_
    refine ⟨_, kp4 _ _ g3 nDq, by rw [List.length_map, List.length_map, List.length_take]; omega, ?_, Same.mut s4 ?_, ?_⟩
    · obtain ⟨dx4, e4⟩ := hR4
      refine ⟨dx4, ?_⟩
      rw [upd_ne nDq.symm]
      rw [show n + 1 + (i + 1) = n + 1 + i + 1 by omega]
      exact e4
    · unfold Less
      rw [if_neg nDq]
      exact nD
    · rw [upd_same, List.take_add_one, hch, List.map_append, List.map_append]
      rfl
  rintro H3 ⟨hR3, s3, g3⟩
  rw [List.take_of_length_le (by omega)] at g3
  refine r_joinL g3 ?_ ?_
  · rw [List.map_map, List.length_map]
    have : ∀ l : List Nat, (l.map ((fun x : Str => x.length) ∘ fun c => (⟨#[c]⟩ : Str))).sum = l.length := fun l => by
      induction l with
      | nil => rfl
      | cons x r ih =>
        rw [List.map_cons, List.sum_cons, ih, List.length_cons]
        show 1 + r.length = r.length + 1
        omega
    rw [this, show ("" : Str).length = 0 from rfl]
    omega
  have ej : Txt.join "" (z.cps.toList.map fun c => (⟨#[c]⟩ : Str)) = z := by
    apply TL.ext_tl
    rw [TL.join_eq, TL.tl_join]
    show TL.joinL [] ((z.cps.toList.map fun c => (⟨#[c]⟩ : Str)).map TL.tl) = TL.tl z
    rw [List.map_map]
    show TL.joinL [] (z.cps.toList.map fun c => [c]) = z.cps.toList
    have : ∀ l : List Nat, TL.joinL [] (l.map fun c => [c]) = l := fun l => by
      induction l with
      | nil => rfl
      | cons x r ih =>
        cases r with
        | nil => rfl
        | cons y r =>
          show [x] ++ ([] ++ TL.joinL [] ((y :: r).map fun c => [c])) = _
          rw [ih]
          rfl
    exact this _
  have s13 : Same (Less q H) H3 := fun b o e => s3 _ _ (Less_at (s1 _ _ e) fun z => by rw [z, Less_none] at e; cases e)
  rw [ej]
  refine k H3 ?_ (keep_of s13)
  rw [wordB_len, ← Nat.add_assoc]
  exact hR3
end
end Sw

/-! The bytes of a plan, by the program and by the statement. -/
namespace Sw
open PySem L2
def sp_names_code (K : PySem.W.Frag) (a : Adr) : Sp := fun vs H Q _ => ∃ (l : Addr) (zs : List Str), vs = [.ref l] ∧ H l = some (.lst (zs.map V.str)) ∧ zs.length ≤ 100 ∧ (∀ z ∈ zs, NameOk z) ∧
  ∀ H' q, Same H H' → H q = none → H' q = some (.lst ((namesB zs).map V.int)) → Q (.ref q) H'
def sp_encode (K : PySem.W.Frag) (a : Adr) : Sp := fun vs H Q _ => ∃ (z : Str) (pd : PlanD) (ts : List Tk) (ss : List Stm) (p : LP), vs = [.str z] ∧ Good z pd ts ss ∧ GoodLP 16 p ∧ Like p pd ∧
  ∀ H' q, Same H H' → H q = none → H' q = some (.lst ((codeB p).map V.int)) → Q (.ref q) H'
def sp_l_word_bytes (K : PySem.W.Frag) (a : Adr) : Sp := fun vs H Q _ => ∃ z : Str, vs = [.str z] ∧ NameOk z ∧ ∀ H' q, Same H H' → H q = none → H' q = some (.lst ((wordB z).map V.int)) → Q (.ref q) H'
def sp_l_bytes (K : PySem.W.Frag) (a : Adr) : Sp := fun vs H Q _ => ∃ (A : LA) (p : LP), vs = [.ref A.q] ∧ LPAt H A p ∧ GoodLP 16 p ∧ ∀ H' q, Same H H' → H q = none → H' q = some (.lst ((bodyB p).map V.int)) → Q (.ref q) H'
theorem namesB_take {zs : List Str} (h : ∀ z ∈ zs, NameOk z) (i : Nat) : ((zs.take i).flatMap wordB).length ≤ zs.length * 9 := by
  have h1 := flat_len (l := zs.take i) (f := wordB) (n := 9) fun z hz => by
    rw [wordB_len]
    have := (h z (List.mem_of_mem_take hz)).l
    omega
  have h2 : (zs.take i).length * 9 ≤ zs.length * 9 := Nat.mul_le_mul_right _ (by rw [List.length_take]; omega)
  omega
theorem r_sidx {z : Str} {R : Nat → Prop} {c : Nat} (ez : z = LET26) (h1 : 97 ≤ c) (h2 : c < 123) (h : R (c - 97)) : ∃ (a b : Str) (i : Nat) (rest : List Nat), V.str z = .str a ∧ [V.str ⟨#[c]⟩] = [.str b] ∧ Builtin.Str.occurrences a b 0 a.length 1 = i :: rest ∧ R i := by
  subst ez
  obtain ⟨rest, e⟩ := let_occ h1 h2
  exact ⟨_, _, _, rest, rfl, rfl, e, h⟩
section
variable {P : Program} {w : World} {K : PySem.W.Frag} {mg : Str → Option Value} {base : Heap} {a : Adr}
theorem ok_names_code {f : Addr} {fd : FuncData} (F : Fun K "names_code" "names_code" s_names_code f fd) (T : Txt w K mg a)
     :
    FnOk P w K mg base CX0 1 f fd ps_names_code (sp_names_code K a) := by
  refine F.ok sc_names_code (fun vs H Q E h => ?_) (fun cdv A outer s H vs Q E hr h => ?_)
  · obtain ⟨l, zs, rfl, hl, hn, hz, k⟩ := h
    rfl
  obtain ⟨l, zs, rfl, hl, hn, hz, k⟩ := h
  have hu := hu_of hr
  refine ⟨_, 
    (pss_cons (ps_set (i := 1) sc_names_code.nd rfl (.inl rfl) (pe_lst (pa_cons (pe_callB call_len_seq (by rfl) T.n_len PySem.boot_len (pa_cons (pv 0) pa_nil)) pa_nil))) 
    (pss_cons (ps_for PassesOwn.never rfl (pi_list (pv 0)) (pg_name (i := 2) sc_names_code.nd rfl (.inl rfl)) 
      (pss_cons (ps_expr (pe_bm PySem.F.plainAttrs_list PySem.F.slot_list_append PySem.F.type_list_append mt_append (pv 1) (pa_cons (pe_callB call_len_str (by rfl) T.n_len PySem.boot_len (pa_cons (pv 2) pa_nil)) pa_nil))) 
      (pss_one (ps_expr (pe_bm PySem.F.plainAttrs_list PySem.F.slot_list_extend PySem.F.type_list_extend mt_extend (pv 1) (pa_cons (pe_lc (own := [("letter", 3)]) (tt := tYes) rfl sc_names_code.nd (pi_str (pv 2)) (blkOk_by (own := [("letter", 3)]) (N := nm_names_code) (sc := defScope s_names_code) (by decide +kernel)) (fun _ _ _ _ _ => pg_name (i := 3) sc_names_code.nd rfl (.inl rfl)) (fun _ _ _ _ _ => pts_nil) (fun _ _ _ _ _ => (show PE _ _ (tBM K _ _ _ _) from pe_bm PySem.F.plainAttrs_str PySem.F.slot_str_index PySem.F.type_str_index mt_sindex (pgS rfl T.g_LETTERS) (pa_cons (pv 3) pa_nil)))) pa_nil)))))) 
    (pss_one (ps_ret (pv 1))))), ?_⟩
  have szl : 10000 ≤ sizeLine := by decide
  repeat walk_at "st"
  refine r_lenL (.inl (SqL.of hl)) ?_
  repeat walk_at "st"
  rw [List.length_map]
  refine ⟨by show 1 ≤ sizeLine; omega, fun q nq => ?_⟩
  have s1 : Same H (upd H q (.lst [.int (zs.length : Int)])) := Same.new nq
  have g1 : (upd H q (.lst [.int (zs.length : Int)])) q = some (.lst ([(zs.length : Int)].map V.int)) := upd_same
  generalize upd H q (.lst [.int (zs.length : Int)]) = H1 at s1 g1 ⊢
  repeat walk_at "st"
  refine r_itL (SqL.of (s1 _ _ hl)) ?_
  refine for_list (xs := zs.map V.str) (fun i σ H3 => ∃ (x2 x3 : Option V), Same H H3 ∧ H3 q = some (.lst (((zs.length : Int) :: (zs.take i).flatMap wordB).map V.int)) ∧ σ = [some (.ref l), some (.ref q), x2, x3]) ⟨_, _, s1, g1, rfl⟩ ?_ ?_ ?_
  · rintro i σ H3 _ ⟨_, _, s3, _⟩
    exact SqL.of (s3 _ _ hl)
  · rintro i x σ H3 hx ⟨x2, x3, s3, g3, rfl⟩
    rw [List.getElem?_map] at hx
    cases hz1 : zs[i]? with
    | none => rw [hz1] at hx; cases hx
    | some z =>
      rw [hz1] at hx
      cases hx
      have Z := hz z (List.mem_of_getElem? hz1)
      have hln := namesB_take hz i
      have Zl := Z.l
      have hzs : z.cps.toList.length = z.length := Array.length_toList
      repeat walk_at "st"
      refine r_tyL (SqL.of g3) ?_
      repeat walk_at "st"
      refine r_app g3 (by rw [List.length_map, List.length_cons]; omega) ?_
      have s4 : Same H (upd H3 q (.lst (((zs.length : Int) :: (zs.take i).flatMap wordB).map V.int ++ [.int (z.length : Int)]))) := Same.mut s3 nq
      have g4 : (upd H3 q (.lst (((zs.length : Int) :: (zs.take i).flatMap wordB).map V.int ++ [.int (z.length : Int)]))) q = some (.lst (((zs.length : Int) :: (zs.take i).flatMap wordB ++ [(z.length : Int)]).map V.int)) := by
        rw [upd_same, List.map_append]
        rfl
      repeat walk_at "st"
      generalize upd H3 q (.lst (((zs.length : Int) :: (zs.take i).flatMap wordB).map V.int ++ [.int (z.length : Int)])) = H4 at s4 g4 ⊢
      refine r_tyL (SqL.of g4) ?_
      repeat walk_at "st"
      refine r_lc ?_
      repeat walk_at "st"
      intro D nD
      have nqD : q ≠ D := ne_of_none g4 nD
      refine lc_it walk_str (fun j H5 => Same H4 H5 ∧ H5 D = some (.lst (((z.cps.toList.take j).map ltrB).map V.int))) ⟨Same.new nD, upd_same⟩ (fun _ _ _ _ => trivial) ?_ ?_
      · rintro j x H5 H6 hj ⟨s5, g5⟩ ⟨rfl, ch, hch, rfl⟩
        have hch' : z.cps.toList[j]? = some ch := by rw [Array.getElem?_toList]; exact hch
        have hcb := Z.c ch (List.mem_of_getElem? hch')
        refine r_gname ?_
        refine ⟨rfl, ?_⟩
        refine r_yes' ?_
        refine iteT ?_
        repeat walk_at "st"
        refine r_sidx rfl hcb.1 hcb.2 ?_
        refine ⟨_, g5, by rw [List.length_map, List.length_map, List.length_take]; omega, Same.mut s5 nD, ?_⟩
        rw [upd_same, List.take_add_one, hch', List.map_append, List.map_append]
        rfl
      · rintro H5 ⟨s5, g5⟩
        rw [show z.cps.size = z.cps.toList.length from hzs.symm ▸ rfl, List.take_length] at g5
        repeat walk_at "st"
        refine r_ext (s5 _ _ g4) g5 (by rw [List.length_map, List.length_map, List.length_map, List.length_append, List.length_cons, hzs]; show _ + 1 + 1 + _ ≤ _; omega) ?_
        repeat walk_at "st"
        refine ⟨_, _, Same.mut (s4.trans s5) nq, ?_, rfl⟩
        rw [upd_same, List.take_add_one, hz1, List.flatMap_append, ← List.map_append]
        refine congrArg (fun l : List Int => some (HO.lst (l.map V.int))) ?_
        simp [wordB]
  rintro σ H3 ⟨x2, x3, s3, g3, rfl⟩
  rw [List.length_map, List.take_length] at g3
  repeat walk_at "st"
  exact k H3 q s3 nq g3
theorem ok_encode {f : Addr} {fd : FuncData} (F : Fun K "encode" "encode" s_encode f fd) (T : Txt w K mg a)
    {f_read_plan : Addr} {fd_read_plan : FuncData} (G_read_plan : Cal P w K mg base "read_plan" 11 f_read_plan fd_read_plan ps_read_plan (sp_read_plan K a))
    {f_names_code : Addr} {fd_names_code : FuncData} (G_names_code : Cal P w K mg base "names_code" 1 f_names_code fd_names_code ps_names_code (sp_names_code K a)) :
    FnOk P w K mg base CX0 12 f fd ps_encode (sp_encode K a) := by
  refine F.ok sc_encode (fun vs H Q E h => ?_) (fun cdv A outer s H vs Q E hr h => ?_)
  · obtain ⟨z, pd, ts, ss, p, rfl, hg, G, L, k⟩ := h
    rfl
  obtain ⟨z, pd, ts, ss, p, rfl, hg, G, L, k⟩ := h
  have hu := hu_of hr
  refine ⟨_, 
    (pss_cons (ps_set (i := 1) sc_encode.nd rfl (.inr rfl) (pe_call G_read_plan.ok (hr.mono (by decide)) rfl G_read_plan.mg' G_read_plan.kp G_read_plan.b .nil pass0 (pa_cons (pv 0) pa_nil))) 
    (pss_cons (ps_set (i := 2) sc_encode.nd rfl (.inl rfl) (pe_lst (pa_cons (pgI rfl T.g_MARK) (pa_cons (pe_fld (pv 1) rfl) pa_nil)))) 
    (pss_cons (ps_expr (pe_bm PySem.F.plainAttrs_list PySem.F.slot_list_extend PySem.F.type_list_extend mt_extend (pv 2) (pa_cons (pe_call G_names_code.ok (hr.mono (by decide)) rfl G_names_code.mg' G_names_code.kp G_names_code.b .nil pass0 (pa_cons (pe_fld (pv 1) rfl) pa_nil)) pa_nil))) 
    (pss_cons (ps_expr (pe_bm PySem.F.plainAttrs_list PySem.F.slot_list_extend PySem.F.type_list_extend mt_extend (pv 2) (pa_cons (pe_call G_names_code.ok (hr.mono (by decide)) rfl G_names_code.mg' G_names_code.kp G_names_code.b .nil pass0 (pa_cons (pe_fld (pv 1) rfl) pa_nil)) pa_nil))) 
    (pss_cons (ps_expr (pe_bm PySem.F.plainAttrs_list PySem.F.slot_list_append PySem.F.type_list_append mt_append (pv 2) (pa_cons (pe_callB call_len_seq (by rfl) T.n_len PySem.boot_len (pa_cons (pe_fld (pv 1) rfl) pa_nil)) pa_nil))) 
    (pss_cons (ps_for PassesOwn.never rfl (pi_list (pe_fld (pv 1) rfl)) (pg_tup rfl (pgs_cons (pg_name (i := 3) sc_encode.nd rfl (.inl rfl)) (pgs_cons (pg_name (i := 4) sc_encode.nd rfl (.inl rfl)) pgs_nil))) 
      (pss_one (ps_expr (pe_bm PySem.F.plainAttrs_list PySem.F.slot_list_extend PySem.F.type_list_extend mt_extend (pv 2) (pa_cons (pe_lst (pa_cons (pv 3) (pa_cons (pv 4) pa_nil))) pa_nil))))) 
    (pss_cons (ps_expr (pe_bm PySem.F.plainAttrs_list PySem.F.slot_list_extend PySem.F.type_list_extend mt_extend (pv 2) (pa_cons (pe_lc (own := [("tile", 3)]) (tt := tYes) rfl sc_encode.nd (pi_range1 (by rfl) T.n_range (pa_cons (pe_fld (pv 1) rfl) pa_nil)) (blkOk_by (own := [("tile", 3)]) (N := nm_encode) (sc := defScope s_encode) (by decide +kernel)) (fun _ _ _ _ _ => pg_name (i := 3) sc_encode.nd rfl (.inl rfl)) (fun _ _ _ _ _ => pts_nil) (fun _ _ _ _ _ => (pe_dget2 (by exact hu) (show PE _ _ (tFld K _ _) from pe_fld (pv 1) rfl) (pv 3) pe_int ⟨rfl, rfl, rfl, rfl⟩))) pa_nil))) 
    (pss_cons (ps_expr (pe_bm PySem.F.plainAttrs_list PySem.F.slot_list_append PySem.F.type_list_append mt_append (pv 2) (pa_cons (pe_callB call_len_dT (by rfl) T.n_len PySem.boot_len (pa_cons (pe_fld (pv 1) rfl) pa_nil)) pa_nil))) 
    (pss_cons (ps_for PassesOwn.never rfl (pi_list (pe_callB (cr_sortedDP rfl) (by rfl) T.n_sorted (by decide +kernel) (pa_cons (pe_fld (pv 1) rfl) pa_nil))) (pg_tup rfl (pgs_cons (pg_name (i := 5) sc_encode.nd rfl (.inl rfl)) (pgs_cons (pg_name (i := 6) sc_encode.nd rfl (.inl rfl)) pgs_nil))) 
      (pss_cons (ps_asg (pe_dget hu (pe_fld (pv 1) rfl) (pe_tup (pa_cons (pv 5) (pa_cons (pv 6) pa_nil))) (fun _ _ => rfl)) (pg_tup rfl (pgs_cons (pg_name (i := 7) sc_encode.nd rfl (.inl rfl)) (pgs_cons (pg_name (i := 8) sc_encode.nd rfl (.inl rfl)) (pgs_cons (pg_name (i := 9) sc_encode.nd rfl (.inl rfl)) pgs_nil))))) 
      (pss_one (ps_expr (pe_bm PySem.F.plainAttrs_list PySem.F.slot_list_extend PySem.F.type_list_extend mt_extend (pv 2) (pa_cons (pe_lst (pa_cons (pv 5) (pa_cons (pv 6) (pa_cons (pv 7) (pa_cons (pv 8) (pa_cons (pv 9) pa_nil)))))) pa_nil)))))) 
    (pss_cons (ps_expr (pe_bm PySem.F.plainAttrs_list PySem.F.slot_list_append PySem.F.type_list_append mt_append (pv 2) (pa_cons (pe_op op_mod (pe_callB (cr_sum rfl) (by rfl) T.n_sum (by decide +kernel) (pa_cons (pv 2) pa_nil)) (pgI rfl T.g_BYTES)) pa_nil))) 
    (pss_one (ps_ret (pv 2))))))))))))), ?_⟩
  have szl : 10000 ≤ sizeLine := by decide
  have hn1 := namesB_len fun z hz => (name_sg z (G.sg z hz)).l.2
  have hn2 := namesB_len fun z hz => (name_md z (G.md z hz)).l.2
  have hb1 := G.s1
  have hb2 := G.m1
  have hb3 := G.f1
  have hb4 := G.r1
  have hb5 := G.ul
  have hrobs : ∀ i, ((p.rb.take i).flatMap robB).length ≤ 6 := fun i => by
    have h1 := flat_len (l := p.rb.take i) (f := robB) (n := 2) fun _ _ => Nat.le_refl _
    rw [List.length_take] at h1
    omega
  have hrus : ∀ i, ((p.ru.take i).flatMap ruB).length ≤ 60 := fun i => by
    have h1 := flat_len (l := p.ru.take i) (f := ruB) (n := 5) fun _ _ => Nat.le_refl _
    rw [List.length_take] at h1
    omega
  repeat walk_at "st"
  refine ⟨z, pd, ts, ss, rfl, hg, fun H1 A hA s1 hf => ?_⟩
  obtain ⟨dp, hp⟩ := id hA.ob
  obtain ⟨qs, hq1, hq2⟩ := id hA.rb
  obtain ⟨kvs, hkv, hkvs⟩ := id hA.rl
  have hql := PySem.Paired.length hq2
  have esz := L.sz
  have esg := L.sg
  have emd := L.md
  have erb := L.rb
  repeat walk_at "st"
  refine r_fldOf hp T.cl_Plan T.n_Plan_size rfl ?_
  repeat walk_at "st"
  rw [esz]
  refine ⟨by show 2 ≤ sizeLine; omega, fun cq ncq => ?_⟩
  have s2 : Same H1 (upd H1 cq (.lst [.int 82, .int (p.fl.length : Int)])) := Same.new ncq
  obtain ⟨B0, eB0⟩ : ∃ B0 : List Int, B0 = [(82 : Int), (p.fl.length : Int)] := ⟨_, rfl⟩
  have hB0 : B0.length = 2 := by rw [eB0]; rfl
  have g2 : (upd H1 cq (.lst [.int 82, .int (p.fl.length : Int)])) cq = some (.lst (B0.map V.int)) := by rw [upd_same, eB0]; rfl
  generalize upd H1 cq (.lst [.int 82, .int (p.fl.length : Int)]) = H2 at s2 g2 ⊢
  repeat walk_at "st"
  refine r_tyL (SqL.of g2) ?_
  repeat walk_at "st"
  refine r_fldOf (s2 _ _ hp) T.cl_Plan T.n_Plan_signs rfl ?_
  refine ⟨A.sg, p.sg, rfl, by rw [← esg]; exact s2 _ _ hA.sg, by omega, fun z hz => name_sg z (G.sg z hz), fun H3 n1 s3 nn1 gn1 => ?_⟩
  repeat walk_at "st"
  refine r_ext (s3 _ _ g2) gn1 (by rw [List.length_map, List.length_map]; omega) ?_
  have s4 : Same H1 (upd H3 cq (.lst (B0.map V.int ++ (namesB p.sg).map V.int))) := Same.mut (s2.trans s3) ncq
  obtain ⟨B1, eB1⟩ : ∃ B1 : List Int, B1 = B0 ++ namesB p.sg := ⟨_, rfl⟩
  have hB1 : B1.length ≤ 39 := by rw [eB1, List.length_append]; omega
  have g4 : (upd H3 cq (.lst (B0.map V.int ++ (namesB p.sg).map V.int))) cq = some (.lst (B1.map V.int)) := by rw [upd_same, eB1, List.map_append]
  repeat walk_at "st"
  generalize upd H3 cq (.lst (B0.map V.int ++ (namesB p.sg).map V.int)) = H4 at s4 g4 ⊢
  refine r_tyL (SqL.of g4) ?_
  repeat walk_at "st"
  refine r_fldOf (s4 _ _ hp) T.cl_Plan T.n_Plan_moods rfl ?_
  refine ⟨A.md, p.md, rfl, by rw [← emd]; exact s4 _ _ hA.md, by omega, fun z hz => name_md z (G.md z hz), fun H5 n2 s5 nn2 gn2 => ?_⟩
  repeat walk_at "st"
  refine r_ext (s5 _ _ g4) gn2 (by rw [List.length_map, List.length_map]; omega) ?_
  have s6 : Same H1 (upd H5 cq (.lst (B1.map V.int ++ (namesB p.md).map V.int))) := Same.mut (s4.trans s5) ncq
  obtain ⟨B2, eB2⟩ : ∃ B2 : List Int, B2 = B1 ++ namesB p.md := ⟨_, rfl⟩
  have hB2 : B2.length ≤ 67 := by rw [eB2, List.length_append]; omega
  have g6 : (upd H5 cq (.lst (B1.map V.int ++ (namesB p.md).map V.int))) cq = some (.lst (B2.map V.int)) := by rw [upd_same, eB2, List.map_append]
  repeat walk_at "st"
  generalize upd H5 cq (.lst (B1.map V.int ++ (namesB p.md).map V.int)) = H6 at s6 g6 ⊢
  refine r_tyL (SqL.of g6) ?_
  repeat walk_at "st"
  refine r_fldOf (s6 _ _ hp) T.cl_Plan T.n_Plan_robots rfl ?_
  refine r_lenL (.inl (SqL.of (s6 _ _ hq1))) ?_
  repeat walk_at "st"
  refine r_app g6 (by rw [List.length_map]; omega) ?_
  rw [show (qs.map V.ref).length = p.rb.length by rw [List.length_map, hql, erb, List.length_map]]
  have s7 : Same H1 (upd H6 cq (.lst (B2.map V.int ++ [.int (p.rb.length : Int)]))) := Same.mut s6 ncq
  obtain ⟨B3, eB3⟩ : ∃ B3 : List Int, B3 = B2 ++ [(p.rb.length : Int)] := ⟨_, rfl⟩
  have hB3 : B3.length ≤ 68 := by rw [eB3, List.length_append]; show _ + 1 ≤ _; omega
  have g7 : (upd H6 cq (.lst (B2.map V.int ++ [.int (p.rb.length : Int)]))) cq = some (.lst (B3.map V.int)) := by rw [upd_same, eB3, List.map_append]; rfl
  repeat walk_at "st"
  generalize upd H6 cq (.lst (B2.map V.int ++ [.int (p.rb.length : Int)])) = H7 at s7 g7 ⊢
  refine r_fldOf (s7 _ _ hp) T.cl_Plan T.n_Plan_robots rfl ?_
  refine r_itL (SqL.of (s7 _ _ hq1)) ?_
  refine for_list (xs := qs.map V.ref) (fun i σ H8 => ∃ (x3 x4 x5 x6 x7 x8 x9 : Option V), Same H1 H8 ∧ H8 cq = some (.lst ((B3 ++ (p.rb.take i).flatMap robB).map V.int)) ∧ σ = [some (.str z), some (.ref A.p), some (.ref cq), x3, x4, x5, x6, x7, x8, x9])
    ⟨_, _, _, _, _, _, _, s7, by rw [List.take_zero, List.flatMap_nil, List.append_nil]; exact g7, rfl⟩ ?_ ?_ ?_
  · rintro i σ H8 _ ⟨_, _, _, _, _, _, _, s8, _⟩
    exact SqL.of (s8 _ _ hq1)
  · rintro i x σ H8 hx ⟨x3, x4, x5, x6, x7, x8, x9, s8, g8, rfl⟩
    rw [List.getElem?_map] at hx
    cases hq : qs[i]? with
    | none => rw [hq] at hx; cases hx
    | some q =>
      rw [hq] at hx
      cases hx
      obtain ⟨r, hr1, hr2⟩ := paired_get hq2 hq
      rw [erb, List.getElem?_map] at hr1
      cases hr3 : p.rb[i]? with
      | none => rw [hr3] at hr1; cases hr1
      | some r0 =>
        rw [hr3] at hr1
        have er : r = ((r0.1 : Int), if r0.2 then 1 else 0) := (Option.some.inj hr1).symm
        subst er
        have hi := (List.getElem?_eq_some_iff.mp hr3).1
        have := hrobs i
        refine r_gTup (xs := [.int (r0.1 : Int), .int (((if r0.2 then 1 else 0 : Nat)) : Int)]) (SqT.of (s8 _ _ hr2)) rfl ?_
        repeat walk_at "st"
        refine r_tyL (SqL.of g8) ?_
        repeat walk_at "st"
        refine ⟨by show 2 ≤ sizeLine; omega, fun tq ntq => ?_⟩
        have s9 : Same H8 (upd H8 tq (.lst [.int (r0.1 : Int), .int (((if r0.2 then 1 else 0 : Nat)) : Int)])) := Same.new ntq
        have g9 : (upd H8 tq (.lst [.int (r0.1 : Int), .int (((if r0.2 then 1 else 0 : Nat)) : Int)])) tq = some (.lst ((robB r0).map V.int)) := by
          rw [upd_same]
          unfold robB
          cases r0.2 <;> rfl
        generalize upd H8 tq (.lst [.int (r0.1 : Int), .int (((if r0.2 then 1 else 0 : Nat)) : Int)]) = H9 at s9 g9 ⊢
        repeat walk_at "st"
        refine r_ext (s9 _ _ g8) g9 (by rw [List.length_map, List.length_map, List.length_append]; show _ + 2 ≤ _; omega) ?_
        repeat walk_at "st"
        refine ⟨_, _, _, _, _, _, _, Same.mut (s8.trans s9) ncq, ?_, rfl⟩
        rw [upd_same, List.take_add_one, hr3, List.flatMap_append, ← List.map_append, List.append_assoc]
        simp
  rintro σ H8 ⟨x3, x4, x5, x6, x7, x8, x9, s8, g8, rfl⟩
  rw [show (qs.map V.ref).length = p.rb.length by rw [List.length_map, hql, erb, List.length_map], List.take_length] at g8
  obtain ⟨B4, eB4⟩ : ∃ B4 : List Int, B4 = B3 ++ p.rb.flatMap robB := ⟨_, rfl⟩
  have hB4 : B4.length ≤ 74 := by
    have := hrobs p.rb.length
    rw [List.take_length] at this
    rw [eB4, List.length_append]
    omega
  rw [← eB4] at g8
  repeat walk_at "st"
  refine r_tyL (SqL.of g8) ?_
  repeat walk_at "st"
  refine r_lc ?_
  repeat walk_at "st"
  refine r_fldOf (s8 _ _ hp) T.cl_Plan T.n_Plan_size rfl ?_
  repeat walk_at "st"
  rw [esz]
  refine ⟨_, rfl, by omega, by omega, fun D nD => ?_⟩
  rw [Int.toNat_natCast]
  have hfl : (List.range p.fl.length).map (fun (t : Nat) => (putAt pd.puts (t : Int)).getD 0) = p.fl := by
    have h := congrArg SitD.signs (like_first L)
    rw [firstL] at h
    have h2 : (firstM pd).signs = (List.range pd.size.toNat).map fun (t : Nat) => (putAt pd.puts (t : Int)).getD 0 := rfl
    rw [h2, esz, Int.toNat_natCast] at h
    exact h
  refine lc_range (n := p.fl.length) (fun i H9 => Same H8 H9 ∧ H9 D = some (.lst ((floorB ((List.range i).map fun (t : Nat) => (putAt pd.puts (t : Int)).getD 0)).map V.int))) ⟨Same.new nD, upd_same⟩ ?_ ?_
  · rintro i H9 hi ⟨s9, g9⟩
    rw [show (0 : Int) + (i : Int) = (i : Int) by omega]
    have s19 := s8.trans s9
    refine r_gname ?_
    refine ⟨rfl, ?_⟩
    refine r_yes' ?_
    refine iteT ?_
    refine r_dget2 ?_
    repeat walk_at "st"
    refine r_fldOf (s19 _ _ hp) T.cl_Plan T.n_Plan_puts rfl ?_
    refine ⟨A.pt, rfl, .inl ⟨_, .of (s19 _ _ hA.pt)⟩, ?_⟩
    repeat walk_at "st"
    refine ⟨_, DGet.k (k := Sum.inl (i : Int)) (s19 _ _ hA.pt), ?_⟩
    have ev : (valV (ptV pd.puts) (Sum.inl (i : Int))).getD (.int 0) = .int (((putAt pd.puts (i : Int)).getD 0 : Nat) : Int) := by
      cases hq : putAt pd.puts (i : Int) with
      | none => rw [pt_no hq]; rfl
      | some v => rw [pt_get hq]; rfl
    rw [ev]
    refine ⟨_, g9, by unfold floorB; rw [List.length_map, List.length_map, List.length_map, List.length_range]; omega, Same.mut s9 nD, ?_⟩
    rw [upd_same, List.range_succ, List.map_append]
    unfold floorB
    rw [List.map_append, List.map_append]
    rfl
  rintro H9 ⟨s9, g9'⟩
  rw [hfl] at g9'
  repeat walk_at "st"
  refine r_ext (s9 _ _ g8) g9' (by rw [List.length_map, List.length_map]; unfold floorB; rw [List.length_map]; omega) ?_
  have s10 : Same H1 (upd H9 cq (.lst (B4.map V.int ++ (floorB p.fl).map V.int))) := Same.mut (s8.trans s9) ncq
  obtain ⟨B5, eB5⟩ : ∃ B5 : List Int, B5 = B4 ++ floorB p.fl := ⟨_, rfl⟩
  have hB5 : B5.length ≤ 90 := by rw [eB5, List.length_append]; unfold floorB; rw [List.length_map]; omega
  have g10 : (upd H9 cq (.lst (B4.map V.int ++ (floorB p.fl).map V.int))) cq = some (.lst (B5.map V.int)) := by rw [upd_same, eB5, List.map_append]
  repeat walk_at "st"
  generalize upd H9 cq (.lst (B4.map V.int ++ (floorB p.fl).map V.int)) = H10 at s10 g10 ⊢
  refine r_tyL (SqL.of g10) ?_
  repeat walk_at "st"
  refine r_fldOf (s10 _ _ hp) T.cl_Plan T.n_Plan_rules rfl ?_
  refine ⟨A.rl, kvs, rfl, s10 _ _ hkv, ?_⟩
  rw [show kvs.length = p.ru.length by rw [PySem.Paired.length hkvs, L.rl.length_eq]]
  repeat walk_at "st"
  refine r_app g10 (by rw [List.length_map]; omega) ?_
  have s11 : Same H1 (upd H10 cq (.lst (B5.map V.int ++ [.int (p.ru.length : Int)]))) := Same.mut s10 ncq
  obtain ⟨B6, eB6⟩ : ∃ B6 : List Int, B6 = B5 ++ [(p.ru.length : Int)] := ⟨_, rfl⟩
  have hB6 : B6.length ≤ 91 := by rw [eB6, List.length_append]; show _ + 1 ≤ _; omega
  have g11 : (upd H10 cq (.lst (B5.map V.int ++ [.int (p.ru.length : Int)]))) cq = some (.lst (B6.map V.int)) := by rw [upd_same, eB6, List.map_append]; rfl
  repeat walk_at "st"
  generalize upd H10 cq (.lst (B5.map V.int ++ [.int (p.ru.length : Int)])) = H11 at s11 g11 ⊢
  refine r_fldOf (s11 _ _ hp) T.cl_Plan T.n_Plan_rules rfl ?_
  refine ⟨A.rl, kvs, _, rfl, .of (s11 _ _ hkv), ruKeys hkvs, fun ys zs pt2 hz1 hz2 npt2 hpz => ?_⟩
  have s12 : Same H11 (upd H11 pt2 (.lst (ys.map V.ref))) := Same.new npt2
  have g12 := s12 _ _ g11
  have gp : (upd H11 pt2 (.lst (ys.map V.ref))) pt2 = some (.lst (ys.map V.ref)) := upd_same
  have hpz : Paired (fun b (z : Int × Int) => (upd H11 pt2 (.lst (ys.map V.ref))) b = some (.tup [.int z.1, .int z.2])) ys zs := Paired.mapP hpz fun b z e => s12 _ _ e
  have ncp : pt2 ≠ cq := (ne_of_none g11 npt2).symm
  have s1_12 := s11.trans s12
  generalize upd H11 pt2 (.lst (ys.map V.ref)) = H12 at s12 s1_12 g12 gp hpz ⊢
  -- what stays
  have sF : Same H1 (Less cq H12) := Less_from s1_12 ncq
  have hpF : Paired (fun b (z : Int × Int) => Less cq H12 b = some (.tup [.int z.1, .int z.2])) ys zs := Paired.mapP hpz fun b z e => Less_at e (ne_of e g12 (by intro z; cases z))
  have gpF := Less_at gp ncp
  have hkeys : zs.map toN = p.ru.map (·.1) := lexN_uniq (toN_sorted hz1 hz2) (ltN_lex G.up) ((toN_perm hz1).trans (L.rl.map _))
  have hnd : (pd.rules.map (·.1)).Nodup := ((L.rl.map (·.1)).nodup_iff).mpr (ltN_nodup G.up)
  refine r_itL (SqL.of gp) ?_
  refine for_list (xs := ys.map V.ref) (fun i σ H8 => ∃ (x3 x4 x5 x6 x7 x8 x9 : Option V), Same (Less cq H12) H8 ∧ H8 cq = some (.lst ((B6 ++ (p.ru.take i).flatMap ruB).map V.int)) ∧ σ = [some (.str z), some (.ref A.p), some (.ref cq), x3, x4, x5, x6, x7, x8, x9])
    ⟨_, _, _, _, _, _, _, Less_same, by rw [List.take_zero, List.flatMap_nil, List.append_nil]; exact g12, rfl⟩ ?_ ?_ ?_
  · rintro i σ H8 _ ⟨_, _, _, _, _, _, _, s8, _⟩
    exact SqL.of (s8 _ _ gpF)
  · rintro i x σ H8 hx ⟨x3, x4, x5, x6, x7, x8, x9, s8, g8, rfl⟩
    rw [List.getElem?_map] at hx
    cases hq : ys[i]? with
    | none => rw [hq] at hx; cases hx
    | some q =>
      rw [hq] at hx
      cases hx
      obtain ⟨kz, hr1, hr2⟩ := paired_get hpF hq
      obtain ⟨hb1, hb2⟩ := toN_back hz1 kz (List.mem_of_getElem? hr1)
      obtain ⟨x, hx1, hx2⟩ : ∃ x, p.ru[i]? = some x ∧ x.1 = toN kz := by
        have e : (zs.map toN)[i]? = some (toN kz) := by rw [List.getElem?_map, hr1]; rfl
        rw [hkeys, List.getElem?_map] at e
        cases hx : p.ru[i]? with
        | none => rw [hx] at e; cases e
        | some x => rw [hx] at e; exact ⟨x, rfl, Option.some.inj e⟩
      have hxm := List.mem_of_getElem? hx1
      have hget := ruleAt_of hnd (L.rl.mem_iff.mpr hxm)
      obtain ⟨tv, hv1, hv2⟩ := rl_get hkvs hget
      have ez : kz = ((x.1.1 : Int), (x.1.2 : Int)) := by rw [hx2]; exact hb1
      have sF8 := sF.trans s8
      have := hrus i
      refine r_gTup (xs := [.int kz.1, .int kz.2]) (SqT.of (s8 _ _ hr2)) rfl ?_
      rw [ez]
      dsimp only
      repeat walk_at "st"
      refine r_fldOf (sF8 _ _ hp) T.cl_Plan T.n_Plan_rules rfl ?_
      repeat walk_at "st"
      refine ⟨by show 2 ≤ sizeLine; omega, fun tk ntk => ?_⟩
      have sK : Same H8 (upd H8 tk (.tup [.int (x.1.1 : Int), .int (x.1.2 : Int)])) := Same.new ntk
      have eK : (upd H8 tk (.tup [.int (x.1.1 : Int), .int (x.1.2 : Int)])) tk = some (.tup ([Sum.inl (x.1.1 : Int), Sum.inl (x.1.2 : Int)].map kV)) := upd_same
      generalize upd H8 tk (.tup [.int (x.1.1 : Int), .int (x.1.2 : Int)]) = H9 at sK eK ⊢
      have s9 := sF8.trans sK
      refine r_dOf (v := .ref tv) (by rw [← hv1]; exact DGet.t (s9 _ _ hkv) eK) ?_
      refine r_gTup (xs := [.int (x.2.1 : Int), .int (x.2.2.1 : Int), .int (x.2.2.2 : Int)]) (SqT.of (s9 _ _ hv2)) rfl ?_
      repeat walk_at "st"
      refine r_tyL (SqL.of (sK _ _ g8)) ?_
      repeat walk_at "st"
      refine ⟨by show 5 ≤ sizeLine; omega, fun tq ntq => ?_⟩
      show tNil _ (upd H9 tq (.lst ((ruB x).map V.int))) _
      have sQ : Same H9 (upd H9 tq (.lst ((ruB x).map V.int))) := Same.new ntq
      have gQ : (upd H9 tq (.lst ((ruB x).map V.int))) tq = some (.lst ((ruB x).map V.int)) := upd_same
      generalize upd H9 tq (.lst ((ruB x).map V.int)) = H10' at sQ gQ ⊢
      repeat walk_at "st"
      refine r_ext (sQ _ _ (sK _ _ g8)) gQ (by rw [List.length_map, List.length_map, List.length_append]; show _ + 5 ≤ _; omega) ?_
      repeat walk_at "st"
      refine ⟨_, _, _, _, _, _, _, Same.mut ((s8.trans sK).trans sQ) Less_none, ?_, rfl⟩
      rw [upd_same, List.take_add_one, hx1, List.flatMap_append, ← List.map_append, List.append_assoc]
      simp
  rintro σ H8 ⟨x3, x4, x5, x6, x7, x8, x9, s8, g8, rfl⟩
  have hlz : (ys.map V.ref).length = p.ru.length := by
    have := congrArg List.length hkeys
    rw [List.length_map, List.length_map] at this
    rw [List.length_map, PySem.Paired.length hpz, this]
  rw [hlz, List.take_length] at g8
  have eC : B6 ++ p.ru.flatMap ruB = bodyB p := by rw [eB6, eB5, eB4, eB3, eB2, eB1, eB0]; rfl
  rw [eC] at g8
  have hbl := bodyB_len G (Nat.le_refl _)
  repeat walk_at "st"
  refine r_tyL (SqL.of g8) ?_
  repeat walk_at "st"
  refine ⟨cq, _, rfl, SqL.of g8, ?_⟩
  repeat walk_at "st"
  refine r_I (by decide) ?_
  repeat walk_at "st"
  refine r_app g8 (by rw [List.length_map]; omega) ?_
  repeat walk_at "st"
  refine k _ cq (s1.trans (Same.mut (sF.trans s8) ncq)) (none_back s1 ncq) ?_
  rw [upd_same]
  unfold codeB
  rw [List.map_append]
  rfl
end
end Sw

/-! A plan from its bytes. -/
namespace Sw
open PySem L2
def sp_read_start (K : PySem.W.Frag) (a : Adr) : Sp := fun vs H Q _ => ∃ (q c : Addr) (A : PA) (pd : PlanD) (xs rest : List Int) (n : Nat) (r : Nat × Bool), vs = [.ref q, .ref A.p] ∧ RdB a H q c n ∧ H c = some (.lst (xs.map V.int)) ∧ xs.length ≤ 5000 ∧ PlanAt a H A pd ∧ xs.drop n = robB r ++ rest ∧ (r.1 : Int) < pd.size ∧
  ∀ H' u, RdB a H' q c (n + 2) → Keep q H H' → H u = none → H' u = some (.tup [.int (r.1 : Int), .int (((if r.2 then 1 else 0 : Nat)) : Int)]) → Q (.ref u) H'
def sp_read_rules (K : PySem.W.Frag) (a : Adr) : Sp := fun vs H Q _ => ∃ (q c : Addr) (A : PA) (pd : PlanD) (p : LP) (xs rest : List Int) (n : Nat) (F : Hp), vs = [.ref q, .ref A.p] ∧ RdB a H q c n ∧ H c = some (.lst (xs.map V.int)) ∧ xs.length ≤ 5000 ∧ PlanAt a H A pd ∧ pd.rules = [] ∧ pd.signs = p.sg ∧ pd.moods = p.md ∧ GoodLP 16 p ∧
  Same F H ∧ F q = none ∧ F A.rl = none ∧ F c = some (.lst (xs.map V.int)) ∧
  xs.drop n = ((p.ru.length : Int) :: p.ru.flatMap ruB) ++ rest ∧ ∀ H', RdB a H' q c (n + 1 + (p.ru.flatMap ruB).length) → PlanAt a H' A { pd with rules := p.ru } → Same F H' → Q .non H'
def sp_decode (K : PySem.W.Frag) (a : Adr) : Sp := fun vs H Q _ => ∃ (c : Addr) (p : LP), vs = [.ref c] ∧ GoodLP 16 p ∧ H c = some (.lst ((codeB p).map V.int)) ∧ ∀ H', Same H H' → Q (.str (Txt.join "\n" (lawL p))) H'
/-- a plan stays where only a reader of bytes changes -/
theorem PlanAt.rd {a : Adr} {H H' : Hp} {A : PA} {pd : PlanD} {q c : Addr} {n : Nat} (h : PlanAt a H A pd) (R : RdB a H q c n) (k : Keep q H H') : PlanAt a H' A pd := by
  obtain ⟨dx, g1⟩ := h.ob
  obtain ⟨qs, g2, g3⟩ := h.rb
  obtain ⟨kvs, g4, g5⟩ := h.rl
  have ht : ∀ u xs, H u = some (.tup xs) → u ≠ q := fun u xs e => R.ne e (by intro _ _ _ z; cases z)
  have hl : ∀ u xs, H u = some (.lst xs) → u ≠ q := fun u xs e => R.ne e (by intro _ _ _ z; cases z)
  have hp : A.p ≠ q := fun z => by
    obtain ⟨dy, e⟩ := R
    rw [← z, g1] at e
    have e2 := congrArg (fun o => match o with | some (HO.ins _ _ fs) => fs.length | _ => 0) e
    cases e2
  exact ⟨⟨dx, k _ _ g1 hp⟩, k _ _ h.sg (hl _ _ h.sg), k _ _ h.md (hl _ _ h.md), ⟨qs, k _ _ g2 (hl _ _ g2), Paired.mapP g3 fun _ _ e => k _ _ e (ht _ _ e)⟩, k _ _ h.pt (R.ne h.pt (by intro _ _ _ z; cases z)),
    ⟨kvs, k _ _ g4 (R.ne g4 (by intro _ _ _ z; cases z)), Paired.mapP g5 fun _ _ e => ⟨e.1, let ⟨u, e1, e2⟩ := e.2; ⟨u, e1, k _ _ e2 (ht _ _ e2)⟩⟩⟩, h.d1, h.d2, h.d3⟩
/-- another list of signs -/
theorem PlanAt.newSg {a : Adr} {H : Hp} {A : PA} {pd : PlanD} {dx l : Addr} {ns : List Str} (h : PlanAt a H A pd) (g1 : H A.p = some (.ins a.cPlan dx (plFs A pd.size))) (hl : H l = some (.lst (ns.map V.str))) (n1 : l ≠ A.md) (n2 : l ≠ A.rb) :
    PlanAt a (upd H A.p (.ins a.cPlan dx (putF "signs" (.ref l) (plFs A pd.size)))) { A with sg := l } { pd with signs := ns } := by
  obtain ⟨qs, g2, g3⟩ := h.rb
  obtain ⟨kvs, g4, g5⟩ := h.rl
  have ht : ∀ q xs, H q = some (.tup xs) → q ≠ A.p := fun q xs e => ne_of e g1 (by intro z; cases z)
  have hll : ∀ q xs, H q = some (.lst xs) → q ≠ A.p := fun q xs e => ne_of e g1 (by intro z; cases z)
  exact ⟨⟨dx, upd_same⟩, upd_kept hl (hll _ _ hl), upd_kept h.md (hll _ _ h.md), ⟨qs, upd_kept g2 (hll _ _ g2), Paired.mapP g3 fun _ _ e => upd_kept e (ht _ _ e)⟩,
    upd_kept h.pt (ne_of h.pt g1 (by intro z; cases z)), ⟨kvs, upd_kept g4 (ne_of g4 g1 (by intro z; cases z)), Paired.mapP g5 fun _ _ e => ⟨e.1, let ⟨q, e1, e2⟩ := e.2; ⟨q, e1, upd_kept e2 (ht _ _ e2)⟩⟩⟩, n1, n2, h.d3⟩
theorem PlanAt.newMd {a : Adr} {H : Hp} {A : PA} {pd : PlanD} {dx l : Addr} {ns : List Str} (h : PlanAt a H A pd) (g1 : H A.p = some (.ins a.cPlan dx (plFs A pd.size))) (hl : H l = some (.lst (ns.map V.str))) (n1 : A.sg ≠ l) (n2 : l ≠ A.rb) :
    PlanAt a (upd H A.p (.ins a.cPlan dx (putF "moods" (.ref l) (plFs A pd.size)))) { A with md := l } { pd with moods := ns } := by
  obtain ⟨qs, g2, g3⟩ := h.rb
  obtain ⟨kvs, g4, g5⟩ := h.rl
  have ht : ∀ q xs, H q = some (.tup xs) → q ≠ A.p := fun q xs e => ne_of e g1 (by intro z; cases z)
  have hll : ∀ q xs, H q = some (.lst xs) → q ≠ A.p := fun q xs e => ne_of e g1 (by intro z; cases z)
  exact ⟨⟨dx, upd_same⟩, upd_kept h.sg (hll _ _ h.sg), upd_kept hl (hll _ _ hl), ⟨qs, upd_kept g2 (hll _ _ g2), Paired.mapP g3 fun _ _ e => upd_kept e (ht _ _ e)⟩,
    upd_kept h.pt (ne_of h.pt g1 (by intro z; cases z)), ⟨kvs, upd_kept g4 (ne_of g4 g1 (by intro z; cases z)), Paired.mapP g5 fun _ _ e => ⟨e.1, let ⟨q, e1, e2⟩ := e.2; ⟨q, e1, upd_kept e2 (ht _ _ e2)⟩⟩⟩, n1, h.d2, n2⟩
theorem flat_split {α : Type} (f : α → List Int) (l : List α) (i : Nat) {x : α} (h : l[i]? = some x) : l.flatMap f = (l.take i).flatMap f ++ (f x ++ (l.drop (i + 1)).flatMap f) := by
  obtain ⟨hi, e⟩ := List.getElem?_eq_some_iff.mp h
  conv => lhs; rw [← List.take_append_drop i l, List.flatMap_append, List.drop_eq_getElem_cons hi, List.flatMap_cons, e]
theorem r_spl {te : TE} {σ : St} {H : Hp} {Q : VK} (v : V) (h : ∀ Q' : VK, Q' v H → te σ H Q') (q : Q v H) : te σ H Q := h Q q
theorem like_selfB {m : Nat} {p : LP} (_G : GoodLP m p) : Like p (pdL p) := by
  refine ⟨rfl, rfl, rfl, rfl, fun x hx => ?_, fun t ht h0 => List.mem_map.mpr ⟨t, List.mem_range.mpr ht, rfl⟩, ?_, List.Perm.refl _⟩
  · obtain ⟨t, ht, e⟩ := List.mem_map.mp hx
    exact ⟨t, by rw [← e], List.mem_range.mp ht, by rw [← e]⟩
  · show (((List.range p.fl.length).map _).map _).Nodup
    rw [List.map_map]
    refine List.Pairwise.map _ (R := (· ≠ ·)) (fun a b h q => h ?_) List.nodup_range
    have q : (a : Int) = (b : Int) := q
    omega
/-- the mood and the sign of the rule before the i-th, as the reader holds them -/
def lastK (p : LP) : Nat → Int × Int
  | 0 => (-1, (p.sg.length : Int) - 1)
  | j + 1 => (((p.ru.getD j ((0, 0), 0, 0, 0)).1.1 : Int), ((p.ru.getD j ((0, 0), 0, 0, 0)).1.2 : Int))
theorem lastK_ok {p : LP} {i : Nat} {x : (Nat × Nat) × Nat × Nat × Nat} (G : GoodLP 16 p) (h : p.ru[i]? = some x) :
    ((lastK p i).2 = (p.sg.length : Int) - 1 → (lastK p i).1 + 1 ≤ (x.1.1 : Int)) ∧ (lastK p i).1 ≤ (x.1.1 : Int) ∧ ((x.1.1 : Int) = (lastK p i).1 → (lastK p i).2 + 1 ≤ (x.1.2 : Int)) := by
  have hx := G.ru x (List.mem_of_getElem? h)
  cases i with
  | zero =>
    show ((p.sg.length : Int) - 1 = (p.sg.length : Int) - 1 → (-1 : Int) + 1 ≤ _) ∧ (-1 : Int) ≤ _ ∧ ((x.1.1 : Int) = -1 → _)
    exact ⟨fun _ => by omega, by omega, fun e => by omega⟩
  | succ j =>
    obtain ⟨hi, e⟩ := List.getElem?_eq_some_iff.mp h
    have hj : j < p.ru.length := by omega
    obtain ⟨y, hy⟩ : ∃ y, y = p.ru[j] := ⟨_, rfl⟩
    have ey : lastK p (j + 1) = ((y.1.1 : Int), (y.1.2 : Int)) := by
      have e0 : p.ru.getD j ((0, 0), 0, 0, 0) = y := by rw [List.getD_eq_getElem?_getD, List.getElem?_eq_getElem hj, hy]; rfl
      show ((((p.ru.getD j ((0, 0), 0, 0, 0)).1.1 : Nat) : Int), (((p.ru.getD j ((0, 0), 0, 0, 0)).1.2 : Nat) : Int)) = _
      rw [e0]
    have hym := G.ru y (by rw [hy]; exact List.getElem_mem _)
    have hlt : ltN y.1 x.1 := by
      have := List.pairwise_iff_getElem.mp G.up j (j + 1) (by rw [List.length_map]; exact hj) (by rw [List.length_map]; exact hi) (Nat.lt_succ_self j)
      rw [List.getElem_map, List.getElem_map, e, ← hy] at this
      exact this
    rw [ey]
    unfold ltN at hlt
    dsimp only
    omega
theorem ru_len {p : LP} (G : GoodLP 16 p) : p.ru.length ≤ p.md.length * p.sg.length := by
  have h := php (p.md.length * p.sg.length) (p.ru.map fun x => x.1.1 * p.sg.length + x.1.2) ?_ ?_
  · rwa [List.length_map] at h
  · have hp := List.pairwise_map.mp G.up
    rw [List.nodup_iff_pairwise_ne, List.pairwise_map]
    refine List.Pairwise.imp_of_mem (fun {x y} hx hy hxy => ?_) hp
    have bx := (G.ru x hx).2.1
    have bz := (G.ru y hy).2.1
    rcases hxy with q | ⟨q1, q2⟩
    · have := Nat.mul_le_mul_right p.sg.length (show x.1.1 + 1 ≤ y.1.1 from q)
      rw [Nat.succ_mul] at this
      omega
    · rw [q1]
      omega
  · intro v hv
    obtain ⟨x, hx, rfl⟩ := List.mem_map.mp hv
    have b := G.ru x hx
    have := Nat.mul_le_mul_right p.sg.length (show x.1.1 + 1 ≤ p.md.length from b.1)
    rw [Nat.succ_mul] at this
    omega
section
variable {P : Program} {w : World} {K : PySem.W.Frag} {mg : Str → Option Value} {base : Heap} {a : Adr}
theorem ok_read_names_encoding {f : Addr} {fd : FuncData} (F : Fun K "read_names" "read_names" s_read_names_encoding f fd) (T : Txt w K mg a)
    {f_ByteReader_take : Addr} {fd_ByteReader_take : FuncData} (ME_ByteReader_take : Meth K a.cByteReader "take" f_ByteReader_take) (G_ByteReader_take : CalM P w K mg base 2 f_ByteReader_take fd_ByteReader_take ps_ByteReader_take (sp_ByteReader_take K a))
    {f_read_name : Addr} {fd_read_name : FuncData} (G_read_name : Cal P w K mg base "read_name" 3 f_read_name fd_read_name ps_read_name (sp_read_name K a)) :
    FnOk P w K mg base CX0 4 f fd ps_read_names_encoding (sp_read_names_encoding K a) := by
  refine F.ok sc_read_names_encoding (fun vs H Q E h => ?_) (fun cdv A outer s H vs Q E hr h => ?_)
  · obtain ⟨q, c, xs, rest, n, most, zs, rfl, hR, hc, hl, hd, hz, hnd, h1, h2, h3, k⟩ := h
    rfl
  obtain ⟨q, c, xs, rest, n, most, zs, rfl, hR, hc, hl, hd, hz, hnd, h1, h2, h3, k⟩ := h
  have hu := hu_of hr
  refine ⟨_, 
    (pss_cons (ps_set (i := 2) sc_read_names_encoding.nd rfl (.inl rfl) (pe_lst pa_nil)) 
    (pss_cons (ps_for PassesOwn.never rfl (pi_range1 (by rfl) T.n_range (pa_cons (pe_meth (pv 0) T.cl_ByteReader ME_ByteReader_take G_ByteReader_take.ok (hr.mono (by decide)) G_ByteReader_take.b .nil pass0 (pa_cons pe_int (pa_cons (pv 1) pa_nil))) pa_nil)) (pg_name (i := 3) sc_read_names_encoding.nd rfl (.inl rfl)) 
      (pss_cons (ps_set (i := 4) sc_read_names_encoding.nd rfl (.inl rfl) (pe_fld (pv 0) rfl)) 
      (pss_cons (ps_set (i := 5) sc_read_names_encoding.nd rfl (.inl rfl) (pe_call G_read_name.ok (hr.mono (by decide)) rfl G_read_name.mg' G_read_name.kp G_read_name.b .nil pass0 (pa_cons (pv 0) pa_nil))) 
      (pss_cons (ps_if (PW.pt (pw_or (pt_cmpR op_in_seq (pv 5) (pgR rfl T.g_KEYWORDS) rfl) (pw_or1 (pt_cmpR op_in_seq (pv 5) (pv 2) rfl)))) 
        (pss_one ps_never) pss_nil) 
      (pss_one (ps_expr (pe_bm PySem.F.plainAttrs_list PySem.F.slot_list_append PySem.F.type_list_append mt_append (pv 2) (pa_cons (pv 5) pa_nil)))))))) 
    (pss_one (ps_ret (pv 2))))), ?_⟩
  have szl : 10000 ≤ sizeLine := by decide
  obtain ⟨dx, hq⟩ := id hR
  have hcq := hR.ne hc (by intro _ _ _ z; cases z)
  have hd1 : xs.drop (n + 1) = zs.flatMap wordB ++ rest := by
    rw [← List.drop_drop, hd]
    rfl
  repeat walk_at "st"
  refine ⟨by show 0 ≤ sizeLine; omega, fun nl nnl => ?_⟩
  have s1 : Same H (upd H nl (.lst [])) := Same.new nnl
  have g1 : (upd H nl (.lst [])) nl = some (.lst (([] : List Str).map V.str)) := upd_same
  generalize upd H nl (.lst []) = H1 at s1 g1 ⊢
  have nlq : nl ≠ q := (hR.mono s1).ne g1 (by intro _ _ _ z; cases z)
  repeat walk_at "st"
  refine ⟨q, _, _, rfl, s1 _ _ hq, rfl, ?_⟩
  repeat walk_at "st"
  refine ⟨q, c, xs, n, (zs.length : Int), 1, _, rfl, hR.mono s1, s1 _ _ hc, hl, drop_at (i := 0) hd rfl, by omega, by omega, fun H2 hR2 kp2 => ?_⟩
  have s2 : Same (Less q H) H2 := kp_from (Less_same.trans s1) Less_none kp2
  have g2 := kp2 _ _ g1 nlq
  repeat walk_at "st"
  refine ⟨_, rfl, by omega, by omega, ?_⟩
  rw [Int.toNat_natCast]
  have nLq : Less q H nl = none := by unfold Less; rw [if_neg nlq]; exact nnl
  have hcL := Less_at hc hcq
  refine for_range (n := zs.length) (fun i σ H3 => RdB a H3 q c (n + 1 + ((zs.take i).flatMap wordB).length) ∧ Same (Less q H) H3 ∧ H3 nl = some (.lst ((zs.take i).map V.str)) ∧ ∃ (x3 x4 x5 : Option V), σ = [some (.ref q), some (.int (most : Int)), some (.ref nl), x3, x4, x5])
    ⟨hR2, s2, g2, _, _, _, rfl⟩ ?_ ?_
  · rintro i σ H3 hi ⟨hR3, s3, g3, x3, x4, x5, rfl⟩
    obtain ⟨z, hzi⟩ : ∃ z, zs[i]? = some z := ⟨_, List.getElem?_eq_getElem hi⟩
    have Z := hz z (List.mem_of_getElem? hzi)
    obtain ⟨dx3, hq3⟩ := id hR3
    have hd3 : xs.drop (n + 1 + ((zs.take i).flatMap wordB).length) = wordB z ++ ((zs.drop (i + 1)).flatMap wordB ++ rest) := by
      refine drop_more ?_
      rw [hd1, flat_split wordB zs i hzi, List.append_assoc, List.append_assoc]
    repeat walk_at "st"
    refine r_fldOf hq3 T.cl_ByteReader T.n_ByteReader_place rfl ?_
    repeat walk_at "st"
    refine ⟨q, c, xs, _, _, z, rfl, hR3, s3 _ _ hcL, hl, hd3, Z, fun H4 hR4 kp4 => ?_⟩
    have s4 := kp_from s3 Less_none kp4
    have g4 := kp4 _ _ g3 nlq
    repeat walk_at "st"
    refine r_or2' (fun QB qq => ?_) ?_
    · repeat walk_at "st"
      refine r_inSeq (xs := KWS.map V.str) (.inr T.t_KEYWORDS.sq) rfl (flat_strs' _) ?_
      rw [inV_strs, decide_eq_false Z.k]
      repeat walk_at "st"
      exact qq
    repeat walk_at "st"
    refine r_inSeq (.inl (SqL.of g4)) rfl (flat_strs' _) ?_
    have hzt : z ∉ zs.take i := fun h => by
      obtain ⟨j, hj, e⟩ := List.getElem_of_mem h
      rw [List.length_take] at hj
      rw [List.getElem_take] at e
      have e2 : zs[j]? = some z := by rw [← e]; exact List.getElem?_eq_getElem (by omega)
      have := (List.getElem?_inj (by omega) hnd).mp (e2.trans hzi.symm)
      omega
    rw [inV_strs, decide_eq_false hzt]
    repeat walk_at "st"
    refine iteF ?_
    repeat walk_at "st"
    refine r_tyL (SqL.of g4) ?_
    repeat walk_at "st"
    refine r_app g4 (by rw [List.length_map, List.length_take]; omega) ?_
    repeat walk_at "st"
    refine ⟨?_, Same.mut s4 nLq, ?_, _, _, _, rfl⟩
    · obtain ⟨dx4, e4⟩ := hR4
      refine ⟨dx4, ?_⟩
      rw [upd_ne nlq.symm, e4, List.take_add_one, hzi, List.flatMap_append, List.length_append, Nat.add_assoc (n + 1)]
      simp
    · rw [upd_same, List.take_add_one, hzi, List.map_append]
      rfl
  · rintro σ H3 ⟨hR3, s3, g3, x3, x4, x5, rfl⟩
    rw [List.take_length] at hR3 g3
    repeat walk_at "st"
    refine k H3 nl ?_ (keep_of s3) nnl g3
    have e : n + (namesB zs).length = n + 1 + (zs.flatMap wordB).length := by unfold namesB; rw [List.length_cons]; omega
    rw [e]
    exact hR3
theorem ok_read_start {f : Addr} {fd : FuncData} (F : Fun K "read_start" "read_start" s_read_start f fd) (T : Txt w K mg a)
    {f_ByteReader_take : Addr} {fd_ByteReader_take : FuncData} (ME_ByteReader_take : Meth K a.cByteReader "take" f_ByteReader_take) (G_ByteReader_take : CalM P w K mg base 2 f_ByteReader_take fd_ByteReader_take ps_ByteReader_take (sp_ByteReader_take K a)) :
    FnOk P w K mg base CX0 3 f fd ps_read_start (sp_read_start K a) := by
  refine F.ok sc_read_start (fun vs H Q E h => ?_) (fun cdv A outer s H vs Q E hr h => ?_)
  · obtain ⟨q, c, A, pd, xs, rest, n, r, rfl, hR, hc, hl, hA, hd, hrt, k⟩ := h
    rfl
  obtain ⟨q, c, A, pd, xs, rest, n, r, rfl, hR, hc, hl, hA, hd, hrt, k⟩ := h
  have hu := hu_of hr
  refine ⟨_, 
    (pss_cons (ps_set (i := 2) sc_read_start.nd rfl (.inl rfl) (pe_meth (pv 0) T.cl_ByteReader ME_ByteReader_take G_ByteReader_take.ok (hr.mono (by decide)) G_ByteReader_take.b .nil pass0 (pa_cons pe_int (pa_cons (pe_op op_sub (pe_fld (pv 1) rfl) pe_int) pa_nil)))) 
    (pss_cons (ps_set (i := 3) sc_read_start.nd rfl (.inl rfl) (pe_meth (pv 0) T.cl_ByteReader ME_ByteReader_take G_ByteReader_take.ok (hr.mono (by decide)) G_ByteReader_take.b .nil pass0 (pa_cons pe_int (pa_cons (pe_op op_sub (pe_callB call_len_seq (by rfl) T.n_len PySem.boot_len (pa_cons (pgR rfl T.g_SIDES) pa_nil)) pe_int) pa_nil)))) 
    (pss_one (ps_ret (pe_tup (pa_cons (pv 2) (pa_cons (pv 3) pa_nil))))))), ?_⟩
  have szl : 10000 ≤ sizeLine := by decide
  obtain ⟨dx, hq⟩ := id hR
  obtain ⟨dp, hp⟩ := id hA.ob
  have hcq := hR.ne hc (by intro _ _ _ z; cases z)
  repeat walk_at "st"
  refine ⟨q, _, _, rfl, hq, rfl, ?_⟩
  repeat walk_at "st"
  refine r_fldOf hp T.cl_Plan T.n_Plan_size rfl ?_
  repeat walk_at "st"
  refine ⟨q, c, xs, n, (r.1 : Int), 0, _, rfl, hR, hc, hl, drop_at (i := 0) hd rfl, by omega, by omega, fun H1 hR1 kp1 => ?_⟩
  obtain ⟨dx1, hq1⟩ := id hR1
  repeat walk_at "st"
  refine ⟨q, _, _, rfl, hq1, rfl, ?_⟩
  repeat walk_at "st"
  refine r_lenL (.inr T.t_SIDES.sq) ?_
  repeat walk_at "st"
  refine ⟨q, c, xs, n + 1, (((if r.2 then 1 else 0 : Nat)) : Int), 0, _, rfl, hR1, kp1 _ _ hc hcq, hl, drop_at (i := 1) hd (by unfold robB; cases r.2 <;> rfl), by omega, by cases r.2 <;> decide, fun H2 hR2 kp2 => ?_⟩
  repeat walk_at "st"
  refine ⟨by show 2 ≤ sizeLine; omega, fun u nu => ?_⟩
  have nuq : u ≠ q := fun z => by
    obtain ⟨dx2, e2⟩ := hR2
    rw [z, e2] at nu
    cases nu
  have kp : Keep q H H2 := kp1.trans kp2
  refine k _ u ?_ (fun b o e n => Same.new nu _ _ (kp _ _ e n)) (kp.none nuq nu) upd_same
  obtain ⟨dx2, e2⟩ := hR2
  exact ⟨dx2, by rw [upd_ne nuq.symm]; exact e2⟩
theorem ok_read_rules {f : Addr} {fd : FuncData} (F : Fun K "read_rules" "read_rules" s_read_rules f fd) (T : Txt w K mg a)
    {f_ByteReader_take : Addr} {fd_ByteReader_take : FuncData} (ME_ByteReader_take : Meth K a.cByteReader "take" f_ByteReader_take) (G_ByteReader_take : CalM P w K mg base 2 f_ByteReader_take fd_ByteReader_take ps_ByteReader_take (sp_ByteReader_take K a)) :
    FnOk P w K mg base CX0 3 f fd ps_read_rules (sp_read_rules K a) := by
  refine F.ok sc_read_rules (fun vs H Q E h => ?_) (fun cdv A outer s H vs Q E hr h => ?_)
  · obtain ⟨q, c, A, pd, p, xs, rest, n, F, rfl, hR, hc, hl, hA, hru, hsg, hmd, G, sF, nFq, nFr, hcF, hd, k⟩ := h
    rfl
  obtain ⟨q, c, A, pd, p, xs, rest, n, F, rfl, hR, hc, hl, hA, hru, hsg, hmd, G, sF, nFq, nFr, hcF, hd, k⟩ := h
  have hu := hu_of hr
  refine ⟨_, 
    (pss_cons (ps_set (i := 2) sc_read_rules.nd rfl (.inl rfl) (pe_op op_sub (pe_callB call_len_seq (by rfl) T.n_len PySem.boot_len (pa_cons (pe_fld (pv 1) rfl) pa_nil)) pe_int)) 
    (pss_cons (ps_set (i := 3) sc_read_rules.nd rfl (.inl rfl) (pe_op op_sub (pe_callB call_len_seq (by rfl) T.n_len PySem.boot_len (pa_cons (pe_fld (pv 1) rfl) pa_nil)) pe_int)) 
    (pss_cons (ps_par (i := 4) (j := 5) rfl sc_read_rules.nd rfl rfl (by decide) rfl rfl (pa_cons (pe_un un_neg pe_int) (pa_cons (pv 2) pa_nil)) (by rfl)) 
    (pss_one (ps_for PassesOwn.never rfl (pi_range1 (by rfl) T.n_range (pa_cons (pe_meth (pv 0) T.cl_ByteReader ME_ByteReader_take G_ByteReader_take.ok (hr.mono (by decide)) G_ByteReader_take.b .nil pass0 (pa_cons pe_int (pa_cons (pe_op op_mul (pe_callB call_len_seq (by rfl) T.n_len PySem.boot_len (pa_cons (pe_fld (pv 1) rfl) pa_nil)) (pe_callB call_len_seq (by rfl) T.n_len PySem.boot_len (pa_cons (pe_fld (pv 1) rfl) pa_nil))) pa_nil))) pa_nil)) (pg_name (i := 6) sc_read_rules.nd rfl (.inl rfl)) 
      (pss_cons (ps_par (i := 7) (j := 8) rfl sc_read_rules.nd rfl rfl (by decide) rfl rfl (pa_cons (pv 4) (pa_cons (pv 5) pa_nil)) (by rfl)) 
      (pss_cons (ps_set (i := 9) sc_read_rules.nd rfl (.inl rfl) (pe_ifExp (pt_cmpR op_eq (pv 8) (pv 2) (nomark _)) (pe_op op_add (pv 7) pe_int) (pv 7))) 
      (pss_cons (ps_set (i := 4) sc_read_rules.nd rfl (.inl rfl) (pe_meth (pv 0) T.cl_ByteReader ME_ByteReader_take G_ByteReader_take.ok (hr.mono (by decide)) G_ByteReader_take.b .nil pass0 (pa_cons (pv 9) (pa_cons (pv 3) pa_nil)))) 
      (pss_cons (ps_set (i := 10) sc_read_rules.nd rfl (.inl rfl) (pe_ifExp (pt_cmpR op_eq (pv 4) (pv 7) (nomark _)) (pe_op op_add (pv 8) pe_int) pe_int)) 
      (pss_cons (ps_set (i := 5) sc_read_rules.nd rfl (.inl rfl) (pe_meth (pv 0) T.cl_ByteReader ME_ByteReader_take G_ByteReader_take.ok (hr.mono (by decide)) G_ByteReader_take.b .nil pass0 (pa_cons (pv 10) (pa_cons (pv 2) pa_nil)))) 
      (pss_cons (ps_set (i := 11) sc_read_rules.nd rfl (.inl rfl) (pe_meth (pv 0) T.cl_ByteReader ME_ByteReader_take G_ByteReader_take.ok (hr.mono (by decide)) G_ByteReader_take.b .nil pass0 (pa_cons pe_int (pa_cons (pv 2) pa_nil)))) 
      (pss_cons (ps_set (i := 12) sc_read_rules.nd rfl (.inl rfl) (pe_meth (pv 0) T.cl_ByteReader ME_ByteReader_take G_ByteReader_take.ok (hr.mono (by decide)) G_ByteReader_take.b .nil pass0 (pa_cons pe_int (pa_cons (pe_op op_sub (pe_callB call_len_seq (by rfl) T.n_len PySem.boot_len (pa_cons (pgR rfl T.g_MOVES) pa_nil)) pe_int) pa_nil)))) 
      (pss_one (ps_dput hu (pe_fld (pv 1) rfl) (pe_tup (pa_cons (pv 4) (pa_cons (pv 5) pa_nil))) (pe_tup (pa_cons (pv 11) (pa_cons (pv 12) (pa_cons (pe_meth (pv 0) T.cl_ByteReader ME_ByteReader_take G_ByteReader_take.ok (hr.mono (by decide)) G_ByteReader_take.b .nil pass0 (pa_cons pe_int (pa_cons (pv 3) pa_nil))) pa_nil)))) rfl)))))))))))))), ?_⟩
  have szl : 10000 ≤ sizeLine := by decide
  have hb1 := G.s1
  have hb2 := G.m1
  have hb3 := G.ul
  have hrl := ru_len G
  obtain ⟨dx, hq⟩ := id hR
  obtain ⟨dp, hp⟩ := id hA.ob
  have hsg' := hA.sg
  have hmd' := hA.md
  rw [hsg] at hsg'
  rw [hmd] at hmd'
  have hcq := hR.ne hc (by intro _ _ _ z; cases z)
  have hd1 : xs.drop (n + 1) = p.ru.flatMap ruB ++ rest := by
    rw [← List.drop_drop, hd]
    rfl
  repeat walk_at "st"
  refine r_fldOf hp T.cl_Plan T.n_Plan_signs rfl ?_
  refine r_lenL (.inl (SqL.of hsg')) ?_
  repeat walk_at "st"
  refine r_fldOf hp T.cl_Plan T.n_Plan_moods rfl ?_
  refine r_lenL (.inl (SqL.of hmd')) ?_
  repeat walk_at "st"
  rw [List.length_map, List.length_map]
  refine ⟨q, _, _, rfl, hq, rfl, ?_⟩
  repeat walk_at "st"
  refine r_fldOf hp T.cl_Plan T.n_Plan_moods rfl ?_
  refine r_lenL (.inl (SqL.of hmd')) ?_
  repeat walk_at "st"
  refine r_fldOf hp T.cl_Plan T.n_Plan_signs rfl ?_
  refine r_lenL (.inl (SqL.of hsg')) ?_
  repeat walk_at "st"
  rw [List.length_map, List.length_map]
  refine r_I (.inl ⟨by omega, by omega⟩) ?_
  repeat walk_at "st"
  refine ⟨q, c, xs, n, (p.ru.length : Int), 0, _, rfl, hR, hc, hl, drop_at (i := 0) hd rfl, by omega, by exact_mod_cast hrl, fun H1 hR1 kp1 => ?_⟩
  repeat walk_at "st"
  refine ⟨_, rfl, by omega, by omega, ?_⟩
  rw [Int.toNat_natCast]
  refine for_range (n := p.ru.length) (fun i σ H3 => RdB a H3 q c (n + 1 + ((p.ru.take i).flatMap ruB).length) ∧ PlanAt a H3 A { pd with rules := p.ru.take i } ∧ Same F H3 ∧ ∃ (x6 x7 x8 x9 x10 x11 x12 : Option V),
    σ = [some (.ref q), some (.ref A.p), some (.int ((p.sg.length : Int) - 1)), some (.int ((p.md.length : Int) - 1)), some (.int (lastK p i).1), some (.int (lastK p i).2), x6, x7, x8, x9, x10, x11, x12])
    ⟨hR1, ?_, kp_from sF nFq kp1, _, _, _, _, _, _, _, rfl⟩ ?_ ?_
  · have h1 := hA.rd hR kp1
    have e : ({ pd with rules := p.ru.take 0 } : PlanD) = pd := by rw [List.take_zero, ← hru]
    rw [e]
    exact h1
  · rintro i σ H3 hi ⟨hR3, hA3, s3, x6, x7, x8, x9, x10, x11, x12, rfl⟩
    obtain ⟨x, hxi⟩ : ∃ x, p.ru[i]? = some x := ⟨_, List.getElem?_eq_getElem hi⟩
    have B := G.ru x (List.mem_of_getElem? hxi)
    obtain ⟨L1, L2, L3⟩ := lastK_ok G hxi
    obtain ⟨em, hem⟩ : ∃ em, em = (lastK p i).1 := ⟨_, rfl⟩
    obtain ⟨es, hes⟩ : ∃ es, es = (lastK p i).2 := ⟨_, rfl⟩
    rw [← hem, ← hes] at L1 L3 ⊢
    rw [← hem] at L2
    obtain ⟨n3, hn3⟩ : ∃ n3, n3 = n + 1 + ((p.ru.take i).flatMap ruB).length := ⟨_, rfl⟩
    have hd3 : xs.drop n3 = ruB x ++ ((p.ru.drop (i + 1)).flatMap ruB ++ rest) := by
      rw [hn3]
      refine drop_more ?_
      rw [hd1, flat_split ruB p.ru i hxi, List.append_assoc, List.append_assoc]
    rw [← hn3] at hR3
    obtain ⟨dx3, hq3⟩ := id hR3
    repeat ((fail_if_success refine r_ifE ?_); walk_at "st")
    refine r_spl (.int (if es = (p.sg.length : Int) - 1 then em + 1 else em)) (fun Q' hq => ?_) ?_
    · refine r_ifE ?_
      repeat walk_at "ni"
      rw [dec_int]
      refine ite_b (p := es = (p.sg.length : Int) - 1) rfl (fun h => ?_) fun h => ?_
      · rw [if_pos h] at hq
        repeat walk_at "st"
        exact hq
      · rw [if_neg h] at hq
        repeat walk_at "st"
        exact hq
    repeat walk_at "st"
    refine ⟨q, _, _, rfl, hq3, rfl, ?_⟩
    repeat walk_at "st"
    refine ⟨q, c, xs, n3, (x.1.1 : Int), _, _, rfl, hR3, s3 _ _ hcF, hl, drop_at (i := 0) hd3 rfl, ?_, by omega, fun H4 hR4 kp4 => ?_⟩
    · by_cases h : es = (p.sg.length : Int) - 1
      · rw [if_pos h]; exact L1 h
      · rw [if_neg h]; exact L2
    have s4 := kp_from s3 nFq kp4
    obtain ⟨dx4, hq4⟩ := id hR4
    repeat ((fail_if_success refine r_ifE ?_); walk_at "st")
    refine r_spl (.int (if (x.1.1 : Int) = em then es + 1 else 0)) (fun Q' hq => ?_) ?_
    · refine r_ifE ?_
      repeat walk_at "ni"
      rw [dec_int]
      refine ite_b (p := (x.1.1 : Int) = em) rfl (fun h => ?_) fun h => ?_
      · rw [if_pos h] at hq
        repeat walk_at "st"
        exact hq
      · rw [if_neg h] at hq
        repeat walk_at "st"
        exact hq
    repeat walk_at "st"
    refine ⟨q, _, _, rfl, hq4, rfl, ?_⟩
    repeat walk_at "st"
    refine ⟨q, c, xs, n3 + 1, (x.1.2 : Int), _, _, rfl, hR4, s4 _ _ hcF, hl, drop_at (i := 1) hd3 rfl, ?_, by omega, fun H5 hR5 kp5 => ?_⟩
    · by_cases h : (x.1.1 : Int) = em
      · rw [if_pos h]; exact L3 h
      · rw [if_neg h]; omega
    have s5 := kp_from s4 nFq kp5
    obtain ⟨dx5, hq5⟩ := id hR5
    repeat walk_at "st"
    refine ⟨q, _, _, rfl, hq5, rfl, ?_⟩
    repeat walk_at "st"
    refine ⟨q, c, xs, n3 + 2, (x.2.1 : Int), 0, _, rfl, hR5, s5 _ _ hcF, hl, drop_at (i := 2) hd3 rfl, by omega, by omega, fun H6 hR6 kp6 => ?_⟩
    have s6 := kp_from s5 nFq kp6
    obtain ⟨dx6, hq6⟩ := id hR6
    repeat walk_at "st"
    refine ⟨q, _, _, rfl, hq6, rfl, ?_⟩
    repeat walk_at "st"
    refine r_lenL (.inr T.t_MOVES.sq) ?_
    repeat walk_at "st"
    refine ⟨q, c, xs, n3 + 3, (x.2.2.1 : Int), 0, _, rfl, hR6, s6 _ _ hcF, hl, drop_at (i := 3) hd3 rfl, by omega, (show ((x.2.2.1 : Nat) : Int) ≤ ((3 : Nat) : Int) - 1 by omega), fun H7 hR7 kp7 => ?_⟩
    have s7 := kp_from s6 nFq kp7
    obtain ⟨dx7, hq7⟩ := id hR7
    repeat walk_at "st"
    refine ⟨q, _, _, rfl, hq7, rfl, ?_⟩
    repeat walk_at "st"
    refine ⟨q, c, xs, n3 + 4, (x.2.2.2 : Int), 0, _, rfl, hR7, s7 _ _ hcF, hl, drop_at (i := 4) hd3 rfl, by omega, by omega, fun H8 hR8 kp8 => ?_⟩
    have s8 := kp_from s7 nFq kp8
    have hA8 := ((((hA3.rd hR3 kp4).rd hR4 kp5).rd hR5 kp6).rd hR6 kp7).rd hR7 kp8
    repeat walk_at "st"
    refine ⟨by show 3 ≤ sizeLine; omega, fun qr nr => ?_⟩
    have s9 : Same H8 (upd H8 qr (.tup [.int (x.2.1 : Int), .int (x.2.2.1 : Int), .int (x.2.2.2 : Int)])) := Same.new nr
    have hqr : (upd H8 qr (.tup [.int (x.2.1 : Int), .int (x.2.2.1 : Int), .int (x.2.2.2 : Int)])) qr = some (.tup [.int (x.2.1 : Int), .int (x.2.2.1 : Int), .int (x.2.2.2 : Int)]) := upd_same
    generalize upd H8 qr (.tup [.int (x.2.1 : Int), .int (x.2.2.1 : Int), .int (x.2.2.2 : Int)]) = H9 at s9 hqr ⊢
    have hA9 := hA8.mono s9
    obtain ⟨dp9, hp9⟩ := id hA9.ob
    repeat walk_at "st"
    refine r_fldOf hp9 T.cl_Plan T.n_Plan_rules rfl ?_
    repeat walk_at "st"
    refine ⟨by show 2 ≤ sizeLine; omega, fun qk nk => ?_⟩
    have s10 : Same H9 (upd H9 qk (.tup [.int (x.1.1 : Int), .int (x.1.2 : Int)])) := Same.new nk
    have hqk : (upd H9 qk (.tup [.int (x.1.1 : Int), .int (x.1.2 : Int)])) qk = some (.tup ([Sum.inl (x.1.1 : Int), Sum.inl (x.1.2 : Int)].map kV)) := upd_same
    generalize upd H9 qk (.tup [.int (x.1.1 : Int), .int (x.1.2 : Int)]) = H10 at s10 hqk ⊢
    have hA10 := hA9.mono s10
    obtain ⟨kvs, hkv, hkvs⟩ := id hA10.rl
    have hkl := pr_len hkvs
    have hkl2 : kvs.length ≤ 12 := by rw [hkl]; show (p.ru.take i).length ≤ 12; rw [List.length_take]; omega
    have hnk : ¬ (x.1.1, x.1.2) ∈ (p.ru.take i).map (·.1) := fun h => by
      obtain ⟨y, hy, e⟩ := List.mem_map.mp h
      obtain ⟨j, hj, ej⟩ := List.getElem_of_mem hy
      rw [List.length_take] at hj
      rw [List.getElem_take] at ej
      have := List.pairwise_iff_getElem.mp G.up j i (by rw [List.length_map]; omega) (by rw [List.length_map]; exact hi) (by omega)
      rw [List.getElem_map, List.getElem_map, ej, (List.getElem?_eq_some_iff.mp hxi).2, e] at this
      unfold ltN at this
      omega
    repeat walk_at "st"
    refine r_dPutT hkv hqk (by omega) ?_
    rw [putK_snoc _ (rl_none hkvs hnk)]
    have hA11 := hA10.addRl (kv := ([Sum.inl (x.1.1 : Int), Sum.inl (x.1.2 : Int)], V.ref qr)) (r := x) hkv hkvs ⟨rfl, qr, rfl, s10 _ _ hqr⟩
    have eR : ({ ({ pd with rules := p.ru.take i } : PlanD) with rules := p.ru.take i ++ [x] } : PlanD) = { pd with rules := p.ru.take (i + 1) } := by rw [List.take_add_one, hxi]; rfl
    have hA12 : PlanAt a (upd H10 A.rl (.dT (kvs ++ [([Sum.inl (x.1.1 : Int), Sum.inl (x.1.2 : Int)], V.ref qr)]))) A { pd with rules := p.ru.take (i + 1) } := by
      rw [← eR]
      exact hA11
    have eK : lastK p (i + 1) = ((x.1.1 : Int), (x.1.2 : Int)) := by
      have e0 : p.ru.getD i ((0, 0), 0, 0, 0) = x := by rw [List.getD_eq_getElem?_getD, hxi]; rfl
      show ((((p.ru.getD i ((0, 0), 0, 0, 0)).1.1 : Nat) : Int), (((p.ru.getD i ((0, 0), 0, 0, 0)).1.2 : Nat) : Int)) = _
      rw [e0]
    have nql : q ≠ A.rl := fun z => by
      obtain ⟨dx8, e8⟩ := hR8
      have := (s9.trans s10) _ _ e8
      rw [z, hkv] at this
      cases this
    refine ⟨?_, hA12, Same.mut ((s8.trans s9).trans s10) nFr, _, _, _, _, _, _, _, by rw [eK]; rfl⟩
    obtain ⟨dx8, e8⟩ := hR8
    refine ⟨dx8, ?_⟩
    rw [upd_ne nql, (s9.trans s10) _ _ e8, List.take_add_one, hxi, List.flatMap_append, List.length_append, ← Nat.add_assoc, ← hn3]
    simp [ruB]
    omega
  · rintro σ H3 ⟨hR3, hA3, s3, x6, x7, x8, x9, x10, x11, x12, rfl⟩
    rw [List.take_length] at hR3 hA3
    repeat walk_at "st"
    exact k H3 hR3 hA3 s3
theorem RdB.upd {H : Hp} {q c x : Addr} {n : Nat} {o : HO} (h : RdB a H q c n) (ne : q ≠ x) : RdB a (upd H x o) q c n := let ⟨dx, e⟩ := h; ⟨dx, by rw [upd_ne ne]; exact e⟩
theorem ok_decode {f : Addr} {fd : FuncData} (F : Fun K "decode" "decode" s_decode f fd) (T : Txt w K mg a)
    {f_ByteReader_init : Addr} {fd_ByteReader_init : FuncData} (M_ByteReader : Mk K a.cByteReader f_ByteReader_init) (G_ByteReader_init : CalM P w K mg base 1 f_ByteReader_init fd_ByteReader_init ps_ByteReader_init (sp_ByteReader_init K a))
    {f_Plan_init : Addr} {fd_Plan_init : FuncData} (M_Plan : Mk K a.cPlan f_Plan_init) (G_Plan_init : CalM P w K mg base 1 f_Plan_init fd_Plan_init ps_Plan_init (sp_Plan_init K a))
    {f_ByteReader_take : Addr} {fd_ByteReader_take : FuncData} (ME_ByteReader_take : Meth K a.cByteReader "take" f_ByteReader_take) (G_ByteReader_take : CalM P w K mg base 2 f_ByteReader_take fd_ByteReader_take ps_ByteReader_take (sp_ByteReader_take K a))
    {f_read_names_encoding : Addr} {fd_read_names_encoding : FuncData} (G_read_names_encoding : Cal P w K mg base "read_names_encoding" 4 f_read_names_encoding fd_read_names_encoding ps_read_names_encoding (sp_read_names_encoding K a))
    {f_read_start : Addr} {fd_read_start : FuncData} (G_read_start : Cal P w K mg base "read_start" 3 f_read_start fd_read_start ps_read_start (sp_read_start K a))
    {f_read_rules : Addr} {fd_read_rules : FuncData} (G_read_rules : Cal P w K mg base "read_rules" 3 f_read_rules fd_read_rules ps_read_rules (sp_read_rules K a))
    {f_ByteReader_end : Addr} {fd_ByteReader_end : FuncData} (ME_ByteReader_end : Meth K a.cByteReader "end" f_ByteReader_end) (G_ByteReader_end : CalM P w K mg base 1 f_ByteReader_end fd_ByteReader_end ps_ByteReader_end (sp_ByteReader_end K a))
    {f_canonical_text : Addr} {fd_canonical_text : FuncData} (G_canonical_text : Cal P w K mg base "canonical_text" 2 f_canonical_text fd_canonical_text ps_canonical_text (sp_canonical_text K a)) :
    FnOk P w K mg base CX0 5 f fd ps_decode (sp_decode K a) := by
  refine F.ok sc_decode (fun vs H Q E h => ?_) (fun cdv A outer s H vs Q E hr h => ?_)
  · obtain ⟨c, p, rfl, G, hc, k⟩ := h
    rfl
  obtain ⟨c, p, rfl, G, hc, k⟩ := h
  have hu := hu_of hr
  refine ⟨_, 
    (pss_cons (ps_if (pt_not (pt_val (pe_callB call_isi (by rfl) T.n_isinstance (by decide +kernel) (pa_cons (pv 0) (pa_cons (ptT (n := "list") (by rfl) T.n_list (by decide +kernel)) pa_nil))))) 
      (pss_one ps_never) pss_nil) 
    (pss_cons (ps_set (i := 1) sc_decode.nd rfl (.inl rfl) (pe_make M_ByteReader G_ByteReader_init.ok (hr.mono (by decide)) rfl T.c_ByteReader G_ByteReader_init.b .nil pass0 (pa_cons (pv 0) pa_nil))) 
    (pss_cons (ps_set (i := 2) sc_decode.nd rfl (.inl rfl) (pe_make0 M_Plan G_Plan_init.ok (hr.mono (by decide)) rfl T.c_Plan G_Plan_init.b .nil pass0)) 
    (pss_cons (ps_expr (pe_meth (pv 1) T.cl_ByteReader ME_ByteReader_take G_ByteReader_take.ok (hr.mono (by decide)) G_ByteReader_take.b .nil pass0 (pa_cons (pgI rfl T.g_MARK) (pa_cons (pgI rfl T.g_MARK) pa_nil)))) 
    (pss_cons (ps_fld (pv 2) (pe_meth (pv 1) T.cl_ByteReader ME_ByteReader_take G_ByteReader_take.ok (hr.mono (by decide)) G_ByteReader_take.b .nil pass0 (pa_cons pe_int (pa_cons (pgI rfl T.g_MOST_TILES) pa_nil))) rfl) 
    (pss_cons (ps_fld (pv 2) (pe_call G_read_names_encoding.ok (hr.mono (by decide)) rfl G_read_names_encoding.mg' G_read_names_encoding.kp G_read_names_encoding.b .nil pass0 (pa_cons (pv 1) (pa_cons (pgI rfl T.g_MOST_SIGNS) pa_nil))) rfl) 
    (pss_cons (ps_fld (pv 2) (pe_call G_read_names_encoding.ok (hr.mono (by decide)) rfl G_read_names_encoding.mg' G_read_names_encoding.kp G_read_names_encoding.b .nil pass0 (pa_cons (pv 1) (pa_cons (pgI rfl T.g_MOST_MOODS) pa_nil))) rfl) 
    (pss_cons (ps_for PassesOwn.never rfl (pi_range1 (by rfl) T.n_range (pa_cons (pe_meth (pv 1) T.cl_ByteReader ME_ByteReader_take G_ByteReader_take.ok (hr.mono (by decide)) G_ByteReader_take.b .nil pass0 (pa_cons pe_int (pa_cons (pgI rfl T.g_MOST_ROBOTS) pa_nil))) pa_nil)) (pg_name (i := 3) sc_decode.nd rfl (.inl rfl)) 
      (pss_one (ps_expr (pe_bm PySem.F.plainAttrs_list PySem.F.slot_list_append PySem.F.type_list_append mt_append (pe_fld (pv 2) rfl) (pa_cons (pe_call G_read_start.ok (hr.mono (by decide)) rfl G_read_start.mg' G_read_start.kp G_read_start.b .nil pass0 (pa_cons (pv 1) (pa_cons (pv 2) pa_nil))) pa_nil))))) 
    (pss_cons (ps_for PassesOwn.never rfl (pi_range1 (by rfl) T.n_range (pa_cons (pe_fld (pv 2) rfl) pa_nil)) (pg_name (i := 4) sc_decode.nd rfl (.inl rfl)) 
      (pss_one (ps_dput hu (pe_fld (pv 2) rfl) (pv 4) (pe_meth (pv 1) T.cl_ByteReader ME_ByteReader_take G_ByteReader_take.ok (hr.mono (by decide)) G_ByteReader_take.b .nil pass0 (pa_cons pe_int (pa_cons (pe_op op_sub (pe_callB call_len_seq (by rfl) T.n_len PySem.boot_len (pa_cons (pe_fld (pv 2) rfl) pa_nil)) pe_int) pa_nil))) rfl))) 
    (pss_cons (ps_expr (pe_call G_read_rules.ok (hr.mono (by decide)) rfl G_read_rules.mg' G_read_rules.kp G_read_rules.b .nil pass0 (pa_cons (pv 1) (pa_cons (pv 2) pa_nil)))) 
    (pss_cons (ps_set (i := 5) sc_decode.nd rfl (.inl rfl) (pe_op op_mod (pe_callB (cr_sum rfl) (by rfl) T.n_sum (by decide +kernel) (pa_cons (pe_slice sl_list (pv 0) po_none (po_some (pe_fld (pv 1) rfl))) pa_nil)) (pgI rfl T.g_BYTES))) 
    (pss_cons (ps_expr (pe_meth (pv 1) T.cl_ByteReader ME_ByteReader_take G_ByteReader_take.ok (hr.mono (by decide)) G_ByteReader_take.b .nil pass0 (pa_cons (pv 5) (pa_cons (pv 5) pa_nil)))) 
    (pss_cons (ps_expr (pe_meth0 (pv 1) T.cl_ByteReader ME_ByteReader_end G_ByteReader_end.ok (hr.mono (by decide)) G_ByteReader_end.b .nil pass0)) 
    (pss_one (ps_ret (pe_call G_canonical_text.ok (hr.mono (by decide)) rfl G_canonical_text.mg' G_canonical_text.kp G_canonical_text.b .nil pass0 (pa_cons (pv 2) pa_nil))))))))))))))))), ?_⟩
  have szl : 10000 ≤ sizeLine := by decide
  have hb1 := G.s1
  have hb2 := G.m1
  have hb3 := G.f1
  have hb4 := G.r1
  have hb5 := G.ul
  have hbl := bodyB_len G (Nat.le_refl _)
  obtain ⟨xs, hxs⟩ : ∃ xs, xs = codeB p := ⟨_, rfl⟩
  have hcl : xs.length = (bodyB p).length + 1 := by rw [hxs]; unfold codeB; rw [List.length_append]; rfl
  have hl : xs.length ≤ 5000 := by omega
  rw [← hxs] at hc
  have d0 : xs.drop 0 = [(82 : Int)] ++ ([(p.fl.length : Int)] ++ (namesB p.sg ++ (namesB p.md ++ ([(p.rb.length : Int)] ++ (p.rb.flatMap robB ++ (floorB p.fl ++ (((p.ru.length : Int) :: p.ru.flatMap ruB) ++ [(bodyB p).sum % 256]))))))) := by
    rw [List.drop_zero, hxs]
    unfold codeB bodyB
    simp [List.append_assoc]
  have d1 := drop_more d0
  have d2 := drop_more d1
  have d3 := drop_more d2
  have d4 := drop_more d3
  have d5 := drop_more d4
  have d6 := drop_more d5
  have d7 := drop_more d6
  have d8 := drop_more d7
  repeat walk_at "st"
  refine r_isi (r := true) (TyX.base (.lst hc)) (by decide +kernel) ?_
  repeat walk_at "st"
  refine iteF ?_
  repeat walk_at "st"
  intro q dx nq ndx hdx
  refine ⟨q, dx, c, rfl, upd_same, fun H1 hR1 kp1 => ⟨rfl, ?_⟩⟩
  have s1 : Same H H1 := Same.made nq ndx kp1
  repeat walk_at "st"
  intro pp dp np ndp hdp
  refine ⟨pp, dp, rfl, upd_same, fun H2 A eA hA2 kp2 hn2 => ⟨rfl, ?_⟩⟩
  have s2 : Same H1 H2 := Same.made np ndp kp2
  have hnew : ∀ x, (x = A.sg ∨ x = A.md ∨ x = A.rb ∨ x = A.pt ∨ x = A.rl) → H1 x = none := fun x hx => by
    have h := hn2 x hx
    have s0 : Same H1 (upd (upd H1 dp (.own pp)) pp (.ins a.cPlan dp [])) := (Same.new ndp).trans (Same.new (by rw [upd_ne hdp.symm]; exact np))
    exact none_back s0 h
  have nH : ∀ x, H1 x = none → H x = none := fun x h => none_back s1 h
  have nrb := hnew A.rb (.inr (.inr (.inl rfl)))
  have npt := hnew A.pt (.inr (.inr (.inr (.inl rfl))))
  have nrl := hnew A.rl (.inr (.inr (.inr (.inr rfl))))
  have np1 : H1 A.p = none := by rw [eA]; exact np
  have hR2 := hR1.mono s2
  have qp : q ≠ A.p := fun z => by
    obtain ⟨dy, e⟩ := hR1
    rw [z, np1] at e
    cases e
  have sH2 := s1.trans s2
  obtain ⟨dx2, hq2⟩ := id hR2
  repeat walk_at "st"
  rw [← eA]
  refine ⟨q, _, _, rfl, hq2, rfl, ?_⟩
  repeat walk_at "st"
  refine ⟨q, c, xs, 0, 82, 82, 82, rfl, hR2, sH2 _ _ hc, hl, drop_at (i := 0) d0 rfl, by omega, by omega, fun H3 hR3 kp3 => ?_⟩
  have hA3 := hA2.rd hR2 kp3
  have sH3 := kp_from sH2 nq kp3
  obtain ⟨dx3, hq3⟩ := id hR3
  repeat walk_at "st"
  refine ⟨q, _, _, rfl, hq3, rfl, ?_⟩
  repeat walk_at "st"
  refine ⟨q, c, xs, 1, (p.fl.length : Int), 1, 16, rfl, hR3, sH3 _ _ hc, hl, drop_at (i := 0) d1 rfl, by omega, by omega, fun H4 hR4 kp4 => ?_⟩
  have hA4 := hA3.rd hR3 kp4
  have sH4 := kp_from sH3 nq kp4
  obtain ⟨dp4, hp4⟩ := id hA4.ob
  repeat walk_at "st"
  refine r_sfldOf hp4 T.cl_Plan T.n_Plan_size (show 6 < 1000 by decide) ?_
  have hA5 : PlanAt a (upd H4 A.p (.ins a.cPlan dp4 (putF "size" (.int (p.fl.length : Int)) (plFs A PlanD.empty.size)))) A { PlanD.empty with size := (p.fl.length : Int) } := hA4.setSize hp4
  have sH5 : Same H (upd H4 A.p (.ins a.cPlan dp4 (putF "size" (.int (p.fl.length : Int)) (plFs A PlanD.empty.size)))) := Same.mut sH4 (nH _ np1)
  have hR5 : RdB a (upd H4 A.p (.ins a.cPlan dp4 (putF "size" (.int (p.fl.length : Int)) (plFs A PlanD.empty.size)))) q c 2 := hR4.upd qp
  generalize upd H4 A.p (.ins a.cPlan dp4 (putF "size" (.int (p.fl.length : Int)) (plFs A PlanD.empty.size))) = H5 at hA5 sH5 hR5 ⊢
  repeat walk_at "st"
  refine ⟨q, c, xs, _, 2, 4, p.sg, rfl, hR5, sH5 _ _ hc, hl, d2, fun z hz => name_sg z (G.sg z hz), G.sd, hb1.1, hb1.2, by omega, fun H6 l6 hR6 kp6 nl6 gl6 => ?_⟩
  have hA6 := hA5.rd hR5 kp6
  have sH6 := kp_from sH5 nq kp6
  obtain ⟨dp6, hp6⟩ := id hA6.ob
  have l6md : l6 ≠ A.md := fun z => by have := hA5.md; rw [← z, nl6] at this; cases this
  have l6rb : l6 ≠ A.rb := fun z => by obtain ⟨_, e, _⟩ := hA5.rb; rw [← z, nl6] at e; cases e
  repeat walk_at "st"
  refine r_sfldOf hp6 T.cl_Plan T.n_Plan_signs (show 6 < 1000 by decide) ?_
  have hA7 := hA6.newSg hp6 gl6 l6md l6rb
  have sH7 : Same H (upd H6 A.p (.ins a.cPlan dp6 (putF "signs" (.ref l6) (plFs A (p.fl.length : Int))))) := Same.mut sH6 (nH _ np1)
  have hR7 : RdB a (upd H6 A.p (.ins a.cPlan dp6 (putF "signs" (.ref l6) (plFs A (p.fl.length : Int))))) q c (2 + (namesB p.sg).length) := hR6.upd qp
  obtain ⟨A7, eA7⟩ : ∃ A7 : PA, A7 = { A with sg := l6 } := ⟨_, rfl⟩
  rw [← eA7] at hA7
  have e7p : A.p = A7.p := by rw [eA7]
  have e7rb : A.rb = A7.rb := by rw [eA7]
  have e7pt : A.pt = A7.pt := by rw [eA7]
  have e7rl : A.rl = A7.rl := by rw [eA7]
  repeat walk_at "st"
  generalize upd H6 A.p (.ins a.cPlan dp6 (putF "signs" (.ref l6) (plFs A (p.fl.length : Int)))) = H7 at hA7 sH7 hR7 ⊢
  refine ⟨q, c, xs, _, 2 + (namesB p.sg).length, 6, p.md, rfl, hR7, sH7 _ _ hc, hl, d3, fun z hz => name_md z (G.md z hz), G.dd, hb2.1, by omega, by omega, fun H8 l8 hR8 kp8 nl8 gl8 => ?_⟩
  have hA8 := hA7.rd hR7 kp8
  have sH8 := kp_from sH7 nq kp8
  obtain ⟨dp8, hp8⟩ := id hA8.ob
  have l8sg : A7.sg ≠ l8 := fun z => by have := hA7.sg; rw [z, nl8] at this; cases this
  have l8rb : l8 ≠ A7.rb := fun z => by obtain ⟨_, e, _⟩ := hA7.rb; rw [← z, nl8] at e; cases e
  repeat walk_at "st"
  rw [e7p]
  refine r_sfldOf hp8 T.cl_Plan T.n_Plan_moods (show 6 < 1000 by decide) ?_
  have hA9 := hA8.newMd hp8 gl8 l8sg l8rb
  rw [e7p] at np1 qp
  have sH9 : Same H (upd H8 A7.p (.ins a.cPlan dp8 (putF "moods" (.ref l8) (plFs A7 (p.fl.length : Int))))) := Same.mut sH8 (nH _ np1)
  have hR9 : RdB a (upd H8 A7.p (.ins a.cPlan dp8 (putF "moods" (.ref l8) (plFs A7 (p.fl.length : Int))))) q c (2 + (namesB p.sg).length + (namesB p.md).length) := hR8.upd qp
  obtain ⟨A9, eA9⟩ : ∃ A9 : PA, A9 = { A7 with md := l8 } := ⟨_, rfl⟩
  rw [← eA9] at hA9
  have e9p : A7.p = A9.p := by rw [eA9]
  rw [show A.rb = A9.rb by rw [eA9, e7rb]] at nrb
  rw [show A.pt = A9.pt by rw [eA9, e7pt]] at npt
  rw [show A.rl = A9.rl by rw [eA9, e7rl]] at nrl
  repeat walk_at "st"
  generalize upd H8 A7.p (.ins a.cPlan dp8 (putF "moods" (.ref l8) (plFs A7 (p.fl.length : Int)))) = H9 at hA9 sH9 hR9 ⊢
  rw [e9p] at np1 qp ⊢
  obtain ⟨n9, hn9⟩ : ∃ n9, n9 = 2 + (namesB p.sg).length + (namesB p.md).length := ⟨_, rfl⟩
  rw [← hn9] at hR9
  have d4' : xs.drop n9 = [(p.rb.length : Int)] ++ (p.rb.flatMap robB ++ (floorB p.fl ++ (((p.ru.length : Int) :: p.ru.flatMap ruB) ++ [(bodyB p).sum % 256]))) := by rw [hn9]; exact d4
  obtain ⟨dx9, hq9⟩ := id hR9
  refine ⟨q, _, _, rfl, hq9, rfl, ?_⟩
  repeat walk_at "st"
  refine ⟨q, c, xs, n9, (p.rb.length : Int), 1, 3, rfl, hR9, sH9 _ _ hc, hl, drop_at (i := 0) d4' rfl, by omega, by omega, fun H10 hR10 kp10 => ?_⟩
  have hA10 := hA9.rd hR9 kp10
  have sH10 := kp_from sH9 nq kp10
  have d5' : xs.drop (n9 + 1) = p.rb.flatMap robB ++ (floorB p.fl ++ (((p.ru.length : Int) :: p.ru.flatMap ruB) ++ [(bodyB p).sum % 256])) := by rw [hn9]; exact d5
  repeat walk_at "st"
  refine ⟨_, rfl, by omega, by omega, ?_⟩
  rw [Int.toNat_natCast]
  obtain ⟨pd9, hpd9⟩ : ∃ pd9 : PlanD, pd9 = ⟨(p.fl.length : Int), p.sg, p.md, [], [], []⟩ := ⟨_, rfl⟩
  have hA10' : PlanAt a H10 A9 { pd9 with robots := (p.rb.take 0).map fun r => ((r.1 : Int), if r.2 then 1 else 0) } := by
    rw [hpd9]
    exact hA10
  refine for_range (n := p.rb.length) (fun i σ H3 => RdB a H3 q c (n9 + 1 + ((p.rb.take i).flatMap robB).length) ∧ PlanAt a H3 A9 { pd9 with robots := (p.rb.take i).map fun r => ((r.1 : Int), if r.2 then 1 else 0) } ∧ Same H H3 ∧ ∃ (x3 x4 x5 : Option V),
    σ = [some (.ref c), some (.ref q), some (.ref A9.p), x3, x4, x5]) ⟨hR10, hA10', sH10, _, _, _, rfl⟩ ?_ ?_
  · rintro i σ H11 hi ⟨hR11, hA11, sH11, x3, x4, x5, rfl⟩
    obtain ⟨r, hri⟩ : ∃ r, p.rb[i]? = some r := ⟨_, List.getElem?_eq_getElem hi⟩
    have B := G.rb r (List.mem_of_getElem? hri)
    obtain ⟨dp11, hp11⟩ := id hA11.ob
    obtain ⟨qs, hq1, hq2⟩ := id hA11.rb
    have hql := PySem.Paired.length hq2
    rw [List.length_map, List.length_take] at hql
    have hd11 : xs.drop (n9 + 1 + ((p.rb.take i).flatMap robB).length) = robB r ++ ((p.rb.drop (i + 1)).flatMap robB ++ (floorB p.fl ++ (((p.ru.length : Int) :: p.ru.flatMap ruB) ++ [(bodyB p).sum % 256]))) := by
      refine drop_more ?_
      rw [d5', flat_split robB p.rb i hri, List.append_assoc, List.append_assoc]
    repeat walk_at "st"
    refine r_fldOf hp11 T.cl_Plan T.n_Plan_robots rfl ?_
    refine r_tyL (SqL.of hq1) ?_
    repeat walk_at "st"
    refine ⟨q, c, A9, _, xs, _, _, r, rfl, hR11, sH11 _ _ hc, hl, hA11, hd11, ?_, fun H12 u hR12 kp12 nu hu => ?_⟩
    · rw [hpd9]
      show (r.1 : Int) < (p.fl.length : Int)
      omega
    have hA12 := hA11.rd hR11 kp12
    have sH12 := kp_from sH11 nq kp12
    have hqrb : A9.rb ≠ q := hR11.ne hq1 (by intro _ _ _ z; cases z)
    have hq12 := kp12 _ _ hq1 hqrb
    have hq22 : Paired (RbAt H12) qs ((p.rb.take i).map fun r => ((r.1 : Int), if r.2 then 1 else 0)) := Paired.mapP hq2 fun b x e => kp12 _ _ e (hR11.ne e (by intro _ _ _ z; cases z))
    repeat walk_at "st"
    refine r_app hq12 (by rw [List.length_map]; omega) ?_
    repeat walk_at "st"
    have hA13 := hA12.addRb (r := ((r.1 : Int), if r.2 then 1 else 0)) hq12 hq22 hu
    refine ⟨?_, ?_, Same.mut sH12 (nH _ nrb), _, _, _, rfl⟩
    · obtain ⟨dx12, e12⟩ := hR12
      refine ⟨dx12, ?_⟩
      rw [upd_ne hqrb.symm, e12, List.take_add_one, hri, List.flatMap_append, List.length_append]
      simp [robB]
      omega
    · have eR : ({ pd9 with robots := (p.rb.take (i + 1)).map fun r => ((r.1 : Int), if r.2 then 1 else 0) } : PlanD) = { ({ pd9 with robots := (p.rb.take i).map fun r => ((r.1 : Int), if r.2 then 1 else 0) } : PlanD) with robots := ((p.rb.take i).map fun r => ((r.1 : Int), if r.2 then 1 else 0)) ++ [((r.1 : Int), if r.2 then 1 else 0)] } := by
        rw [List.take_add_one, hri, List.map_append]
        rfl
      rw [eR]
      exact hA13
  rintro σ H11 ⟨hR11, hA11, sH11, x3, x4, x5, rfl⟩
  rw [List.take_length] at hR11 hA11
  obtain ⟨pd11, hpd11⟩ : ∃ pd11 : PlanD, pd11 = { pd9 with robots := p.rb.map fun r => ((r.1 : Int), if r.2 then 1 else 0) } := ⟨_, rfl⟩
  rw [← hpd11] at hA11
  obtain ⟨n11, hn11⟩ : ∃ n11, n11 = n9 + 1 + (p.rb.flatMap robB).length := ⟨_, rfl⟩
  rw [← hn11] at hR11
  have d6' : xs.drop n11 = floorB p.fl ++ (((p.ru.length : Int) :: p.ru.flatMap ruB) ++ [(bodyB p).sum % 256]) := by rw [hn11]; exact drop_more d5'
  obtain ⟨dp11, hp11⟩ := id hA11.ob
  have hs11 : pd11.size = (p.fl.length : Int) := by rw [hpd11, hpd9]
  repeat walk_at "st"
  refine r_fldOf hp11 T.cl_Plan T.n_Plan_size rfl ?_
  repeat walk_at "st"
  rw [hs11]
  refine ⟨_, rfl, by omega, by omega, ?_⟩
  rw [Int.toNat_natCast]
  have hA11' : PlanAt a H11 A9 { pd11 with puts := (List.range 0).map fun (t : Nat) => ((t : Int), p.fl.getD t 0) } := by
    have e : ({ pd11 with puts := (List.range 0).map fun (t : Nat) => ((t : Int), p.fl.getD t 0) } : PlanD) = pd11 := by rw [hpd11, hpd9]; rfl
    rw [e]
    exact hA11
  refine for_range (n := p.fl.length) (fun i σ H3 => RdB a H3 q c (n11 + i) ∧ PlanAt a H3 A9 { pd11 with puts := (List.range i).map fun (t : Nat) => ((t : Int), p.fl.getD t 0) } ∧ Same H H3 ∧ ∃ (x3 x4 x5 : Option V),
    σ = [some (.ref c), some (.ref q), some (.ref A9.p), x3, x4, x5]) ⟨hR11, hA11', sH11, _, _, _, rfl⟩ ?_ ?_
  · rintro i σ H12 hi ⟨hR12, hA12, sH12, x3, x4, x5, rfl⟩
    rw [show (0 : Int) + (i : Int) = (i : Int) by omega]
    obtain ⟨dx12, hq12⟩ := id hR12
    obtain ⟨dp12, hp12⟩ := id hA12.ob
    have hsg12 : H12 A9.sg = some (.lst (p.sg.map V.str)) := by
      have := hA12.sg
      rwa [show ({ pd11 with puts := (List.range i).map fun (t : Nat) => ((t : Int), p.fl.getD t 0) } : PlanD).signs = p.sg by rw [hpd11, hpd9]] at this
    have hfi : p.fl[i]? = some (p.fl.getD i 0) := by rw [List.getD_eq_getElem?_getD, List.getElem?_eq_getElem hi]; rfl
    have B := G.fl _ (List.mem_of_getElem? hfi)
    repeat walk_at "st"
    refine ⟨q, _, _, rfl, hq12, rfl, ?_⟩
    repeat walk_at "st"
    refine r_fldOf hp12 T.cl_Plan T.n_Plan_signs rfl ?_
    refine r_lenL (.inl (SqL.of hsg12)) ?_
    repeat walk_at "st"
    rw [List.length_map]
    refine ⟨q, c, xs, n11 + i, ((p.fl.getD i 0 : Nat) : Int), 0, _, rfl, hR12, sH12 _ _ hc, hl, drop_at (i := i) d6' (by unfold floorB; rw [List.getElem?_map, hfi]; rfl), by omega, by omega, fun H13 hR13 kp13 => ?_⟩
    have hA13 := hA12.rd hR12 kp13
    have sH13 := kp_from sH12 nq kp13
    obtain ⟨dp13, hp13⟩ := id hA13.ob
    have hpt13 := hA13.pt
    have hno : ¬ (i : Int) ∈ ((List.range i).map fun (t : Nat) => ((t : Int), p.fl.getD t 0)).map (·.1) := fun h => by
      rw [List.map_map] at h
      obtain ⟨t, ht, e⟩ := List.mem_map.mp h
      have ht := List.mem_range.mp ht
      have e : (t : Int) = (i : Int) := e
      omega
    repeat walk_at "st"
    refine r_fldOf hp13 T.cl_Plan T.n_Plan_puts rfl ?_
    repeat walk_at "st"
    refine r_dPutK (k := Sum.inl (i : Int)) hpt13 (by unfold ptV; rw [List.length_map]; show ((List.range i).map _).length < _; rw [List.length_map, List.length_range]; omega) ?_
    obtain ⟨li, hli⟩ : ∃ li, li = (List.range i).map fun (t : Nat) => ((t : Int), p.fl.getD t 0) := ⟨_, rfl⟩
    have hli1 : (List.range (i + 1)).map (fun (t : Nat) => ((t : Int), p.fl.getD t 0)) = li ++ [((i : Int), p.fl.getD i 0)] := by rw [List.range_succ, List.map_append, hli]; rfl
    rw [← hli] at hno hA13 hpt13 ⊢
    rw [putK_snoc _ (ptV_none hno)]
    have e : ptV li ++ [((Sum.inl (i : Int) : Key), V.int ((p.fl.getD i 0 : Nat) : Int))] = ptV (li ++ [((i : Int), p.fl.getD i 0)]) := by unfold ptV; rw [List.map_append]; rfl
    rw [e]
    have hA14 : PlanAt a (upd H13 A9.pt (.dK (ptV (li ++ [((i : Int), p.fl.getD i 0)])))) A9 { pd11 with puts := li ++ [((i : Int), p.fl.getD i 0)] } := hA13.setPt (l := li ++ [((i : Int), p.fl.getD i 0)])
    have nqpt : q ≠ A9.pt := (hR13.ne hpt13 (by intro _ _ _ z; cases z)).symm
    repeat walk_at "st"
    refine ⟨?_, by rw [hli1]; exact hA14, Same.mut sH13 (nH _ npt), _, _, _, rfl⟩
    rw [← Nat.add_assoc]
    exact hR13.upd nqpt
  rintro σ H12 ⟨hR12, hA12, sH12, x3, x4, x5, rfl⟩
  obtain ⟨pd12, hpd12⟩ : ∃ pd12 : PlanD, pd12 = { pd11 with puts := (List.range p.fl.length).map fun (t : Nat) => ((t : Int), p.fl.getD t 0) } := ⟨_, rfl⟩
  rw [← hpd12] at hA12
  obtain ⟨n12, hn12⟩ : ∃ n12, n12 = n11 + p.fl.length := ⟨_, rfl⟩
  rw [← hn12] at hR12
  have d7' : xs.drop n12 = ((p.ru.length : Int) :: p.ru.flatMap ruB) ++ [(bodyB p).sum % 256] := by
    have := drop_more d6'
    rw [show (floorB p.fl).length = p.fl.length by unfold floorB; rw [List.length_map], ← hn12] at this
    exact this
  repeat walk_at "st"
  refine ⟨q, c, A9, pd12, p, xs, _, n12, H, rfl, hR12, sH12 _ _ hc, hl, hA12, by rw [hpd12, hpd11, hpd9], by rw [hpd12, hpd11, hpd9], by rw [hpd12, hpd11, hpd9], G, sH12, nq, nH _ nrl, hc, d7', fun H13 hR13 hA13 sH13 => ?_⟩
  have epd : ({ pd12 with rules := p.ru } : PlanD) = pdL p := by rw [hpd12, hpd11, hpd9]; rfl
  rw [epd] at hA13
  obtain ⟨n13, hn13⟩ : ∃ n13, n13 = n12 + 1 + (p.ru.flatMap ruB).length := ⟨_, rfl⟩
  rw [← hn13] at hR13
  have d8' : xs.drop n13 = [(bodyB p).sum % 256] ++ [] := by
    have := drop_more d7'
    rw [List.length_cons] at this
    rw [hn13, show n12 + 1 + (p.ru.flatMap ruB).length = n12 + ((p.ru.flatMap ruB).length + 1) by omega, this, List.append_nil]
  have hlen13 : n13 = (bodyB p).length := by
    have h1 := congrArg List.length d8'
    rw [List.length_drop, hcl] at h1
    have h2 : ([(bodyB p).sum % 256] ++ ([] : List Int)).length = 1 := rfl
    omega
  obtain ⟨dx13, hq13⟩ := id hR13
  repeat walk_at "st"
  refine r_fldOf hq13 T.cl_ByteReader T.n_ByteReader_place rfl ?_
  repeat walk_at "st"
  refine r_slL (SqL.of (sH13 _ _ hc)) fun q8 n8 => ?_
  rw [cutV_to, ← List.map_take]
  have s14 : Same H13 (upd H13 q8 (.lst ((xs.take n13).map V.int))) := Same.new n8
  have g14 : (upd H13 q8 (.lst ((xs.take n13).map V.int))) q8 = some (.lst ((xs.take n13).map V.int)) := upd_same
  generalize upd H13 q8 (.lst ((xs.take n13).map V.int)) = H14 at s14 g14 ⊢
  have etk : xs.take n13 = bodyB p := by
    rw [hxs, hlen13]
    unfold codeB
    exact List.take_left
  rw [etk] at g14
  refine ⟨q8, _, rfl, SqL.of g14, ?_⟩
  repeat walk_at "st"
  refine r_I (by decide) ?_
  repeat walk_at "st"
  have hR14 := hR13.mono s14
  have hA14 := hA13.mono s14
  have sH14 := sH13.trans s14
  obtain ⟨dx14, hq14⟩ := id hR14
  refine ⟨q, _, _, rfl, hq14, rfl, ?_⟩
  repeat walk_at "st"
  refine ⟨q, c, xs, n13, (bodyB p).sum % 256, _, _, rfl, hR14, sH14 _ _ hc, hl, drop_at (i := 0) d8' rfl, Int.le_refl _, Int.le_refl _, fun H15 hR15 kp15 => ?_⟩
  have hA15 := hA14.rd hR14 kp15
  have sH15 := kp_from sH14 nq kp15
  obtain ⟨dx15, hq15⟩ := id hR15
  repeat walk_at "st"
  refine ⟨q, _, _, rfl, hq15, rfl, ?_⟩
  repeat walk_at "st"
  refine ⟨q, c, xs, rfl, by rw [hcl, ← hlen13]; exact hR15, sH15 _ _ hc, ?_⟩
  repeat walk_at "st"
  refine ⟨A9, pdL p, rfl, hA15, like_small G (like_selfB G), fun H16 ts rs s16 h1 h2 => ?_⟩
  rw [like_canon G (like_selfB G) h1 h2]
  exact k H16 (sH15.trans s16)
end
end Sw

/-! The machine's small defs. -/
namespace Sw
open PySem L2
/-- a robot as the machine holds it -/
def RoAt (H : Hp) (q : Addr) (r : RobD) : Prop := H q = some (.tup [.int r.1, .int (r.2.1 : Int), .int (r.2.2 : Int)])
def natsV (l : List Nat) : List V := l.map fun (i : Nat) => V.int (i : Int)
structure SA where
  q : Addr
  s : Addr
  r : Addr
structure SitAt (H : Hp) (A : SA) (d : SitD) : Prop where
  q : H A.q = some (.tup [.ref A.s, .ref A.r])
  s : H A.s = some (.tup (natsV d.signs))
  r : ∃ qs, H A.r = some (.tup (qs.map V.ref)) ∧ Paired (RoAt H) qs d.robots
theorem SitAt.same {H H' : Hp} {A : SA} {d : SitD} (h : SitAt H A d) (s : Same H H') : SitAt H' A d := by
  obtain ⟨qs, h1, h2⟩ := h.r
  exact ⟨s _ _ h.q, s _ _ h.s, ⟨qs, s _ _ h1, Paired.mapP h2 fun _ _ e => s _ _ e⟩⟩
def sp_moved (K : PySem.W.Frag) (a : Adr) : Sp := fun vs H Q _ => ∃ (size tile : Int) (side move : Nat), vs = [.int size, .int tile, .int (side : Int), .int (move : Int)] ∧ side < 2 ∧
  ∀ H' q, Same H H' → H q = none → H' q = some (.tup [.int (movedM size tile side move).1, .int ((movedM size tile side move).2 : Int)]) → Q (.ref q) H'
/-- an expression with one value on all its ways -/
theorem r_split2 {te : TE} {v : V} {σ : St} {H : Hp} {Q : VK} (h : ∀ Q' : VK, Q' v H → te σ H Q') (q : Q v H) : te σ H Q := h Q q
theorem fl_map' {l : List Nat} {i : Nat} (h : i < l.length) : (natsV l)[i]? = some (.int ((l.getD i 0 : Nat) : Int)) := by
  unfold natsV
  rw [List.getElem?_map, List.getElem?_eq_getElem h]
  simp [h]
def sp_perform (K : PySem.W.Frag) (a : Adr) : Sp := fun vs H Q _ => ∃ (A : PA) (pd : PlanD) (B : SA) (d : SitD), vs = [.ref A.p, .ref B.q] ∧ PlanAt a H A pd ∧ Small pd ∧ SitAt H B d ∧ SitOK pd d ∧
  ∀ (H' : Hp) (q wl : Addr) (B' : SA), Same H H' → H q = none → H' q = some (.tup [.ref wl, .ref B'.q]) → H wl = none → H' wl = some (.lst ((performM pd d).1.map V.str)) → SitAt H' B' (performM pd d).2 → Q (.ref q) H'
def sp_first_situation (K : PySem.W.Frag) (a : Adr) : Sp := fun vs H Q _ => ∃ (A : PA) (pd : PlanD), vs = [.ref A.p] ∧ PlanAt a H A pd ∧ Small pd ∧ ∀ (H' : Hp) (B : SA), Same H H' → SitAt H' B (firstM pd) → Q (.ref B.q) H'
def sp_sign_names (K : PySem.W.Frag) (a : Adr) : Sp := fun vs H Q _ => ∃ (A : PA) (pd : PlanD) (p : Addr) (l : List Nat), vs = [.ref A.p, .ref p] ∧ PlanAt a H A pd ∧ H p = some (.tup (natsV l)) ∧ (∀ i ∈ l, i < pd.signs.length) ∧ l.length ≤ 900 ∧
  ∀ (H' : Hp) (q : Addr), Same H H' → H q = none → H' q = some (.lst ((l.map fun i => pd.signs.getD i Str.empty).map V.str)) → Q (.ref q) H'



def RtAt (pd : PlanD) (H : Hp) (q : Addr) (r : RobD) : Prop := H q = some (.tup [.int r.1, .str (SIDESs.getD r.2.1 Str.empty), .str (pd.moods.getD r.2.2 Str.empty)])
def sp_robot_tuples (K : PySem.W.Frag) (a : Adr) : Sp := fun vs H Q _ => ∃ (A : PA) (pd : PlanD) (p : Addr) (l : List RobD) (qs : List Addr), vs = [.ref A.p, .ref p] ∧ PlanAt a H A pd ∧ H p = some (.tup (qs.map V.ref)) ∧ Paired (RoAt H) qs l ∧ (∀ r ∈ l, RobOK pd r) ∧ l.length ≤ 900 ∧
  ∀ (H' : Hp) (q : Addr) (ps : List Addr), Same H H' → H q = none → H' q = some (.lst (ps.map V.ref)) → Paired (RtAt pd H') ps l → Q (.ref q) H'
theorem r_gSub' {to ti : TE} {t : TSet} {v : V} {σ : St} {H : Hp} {QS : St → Hp → Prop} (h : to σ H fun o H1 => ti σ H1 fun i H2 => t o i v H2 fun H3 => QS σ H3) : gSub to ti t v σ H QS := h
theorem r_dget1 {td ty : TE} {σ : St} {H : Hp} {Q : VK} (h : td σ H fun x H1 => ∃ a, x = .ref a ∧ IsD H1 a ∧ ty σ H1 fun y H2 => ∃ o, DGet H2 a y o ∧ Q (o.getD .non) H2) : tDGet1 td ty σ H Q := h
theorem rl_no {H : Hp} {kvs : List (List Key × V)} {l : List ((Nat × Nat) × Nat × Nat × Nat)} {k : Nat × Nat} (hp : Paired (RuAt H) kvs l) (h : ruleAt l k = none) : valV kvs [Sum.inl (k.1 : Int), Sum.inl (k.2 : Int)] = none := by
  obtain ⟨i, j⟩ := k
  refine rl_none hp fun hm => ?_
  obtain ⟨v, e, _⟩ := ruleAt_mem hm
  rw [h] at e
  cases e
def sp_act (K : PySem.W.Frag) (a : Adr) : Sp := fun vs H Q _ => ∃ (A : PA) (pd : PlanD) (l rq : Addr) (sl : List Nat) (r : RobD), vs = [.ref A.p, .ref l, .ref rq] ∧ PlanAt a H A pd ∧ Small pd ∧ H l = some (.lst (natsV sl)) ∧ RoAt H rq r ∧
  (sl.length : Int) = pd.size ∧ (∀ i ∈ sl, i < pd.signs.length) ∧ RobOK pd r ∧
  ∀ H' q rq', Keep l H H' → H' l = some (.lst (natsV (actM pd sl r).2.2)) → H q = none → H' q = some (.tup [.str (actM pd sl r).1, .ref rq']) → RoAt H' rq' (actM pd sl r).2.1 → Q (.ref q) H'
section
variable {P : Program} {w : World} {K : PySem.W.Frag} {mg : Str → Option Value} {base : Heap} {a : Adr}
theorem ok_moved {f : Addr} {fd : FuncData} (F : Fun K "moved" "moved" s_moved f fd) (T : Txt w K mg a)
     :
    FnOk P w K mg base CX0 1 f fd ps_moved (sp_moved K a) := by
  refine F.ok sc_moved (fun vs H Q E h => ?_) (fun cdv A outer s H vs Q E hr h => ?_)
  · obtain ⟨size, tile, side, move, rfl, hs, k⟩ := h
    rfl
  obtain ⟨size, tile, side, move, rfl, hs, k⟩ := h
  have hu := hu_of hr
  refine ⟨_, 
    (pss_cons (ps_if (pt_cmpR op_eq (pv 3) (pgI rfl T.g_STAY) (nomark _)) 
      (pss_one (ps_ret (pe_tup (pa_cons (pv 1) (pa_cons (pv 2) pa_nil))))) pss_nil) 
    (pss_cons (ps_set (i := 4) sc_moved.nd rfl (.inl rfl) (pe_ifExp (pt_cmpR op_eq (pv 3) (pgI rfl T.g_BACK) (nomark _)) (pe_op op_sub pe_int (pv 2)) (pv 2))) 
    (pss_cons (ps_set (i := 5) sc_moved.nd rfl (.inl rfl) (pe_ifExp (pt_cmpR op_eq (pv 4) (pgI rfl T.g_LEFT) (nomark _)) (pe_op op_sub (pv 1) pe_int) (pe_op op_add (pv 1) pe_int))) 
    (pss_cons (ps_if (pt_chain op_le op_lt pe_int (pv 5) (pv 0)) 
      (pss_one (ps_ret (pe_tup (pa_cons (pv 5) (pa_cons (pv 4) pa_nil))))) pss_nil) 
    (pss_one (ps_ret (pe_tup (pa_cons (pv 1) (pa_cons (pe_op op_sub pe_int (pv 4)) pa_nil))))))))), ?_⟩
  have fin : ∀ (x : Int) (y : Nat), (x, y) = movedM size tile side move → [V.int x, V.int (y : Int)].length ≤ sizeLine ∧ ∀ p, H p = none → Q (.ref p) (upd H p (.tup [.int x, .int (y : Int)])) := fun x y e =>
    ⟨by show 2 ≤ sizeLine; decide, fun p np => k _ p (Same.new np) np (by rw [upd_same, ← e])⟩
  repeat walk_at "st"
  rw [dec_int]
  refine ite_b (p := move = 2) (by by_cases h : move = 2 <;> simp [h] <;> omega) (fun h2 => ?_) fun h2 => ?_
  · repeat walk_at "st"
    exact fin tile side (by unfold movedM; rw [if_pos h2])
  refine r_next ?_
  dsimp only
  obtain ⟨g, hg, hg2⟩ : ∃ g : Nat, g = (if move = 1 then 1 - side else side) ∧ g < 2 := ⟨_, rfl, by split <;> omega⟩
  refine r_seq ?_
  refine r_asg ?_
  refine r_split2 (v := .int (g : Int)) (fun Q' hq => ?_) ?_
  · repeat walk_at "st"
    rw [dec_int]
    refine ite_b (p := move = 1) (by by_cases h : move = 1 <;> simp [h] <;> omega) (fun h => ?_) fun h => ?_
    · repeat walk_at "st"
      rw [show (1 : Int) - (side : Int) = (g : Int) by rw [hg, if_pos h]; omega]
      exact hq
    · repeat walk_at "st"
      rw [show (side : Int) = (g : Int) by rw [hg, if_neg h]]
      exact hq
  refine r_gname ?_
  dsimp only
  refine r_seq ?_
  refine r_asg ?_
  obtain ⟨x, hx⟩ : ∃ x : Int, x = (if g = 0 then tile - 1 else tile + 1) := ⟨_, rfl⟩
  refine r_split2 (v := .int x) (fun Q' hq => ?_) ?_
  · repeat walk_at "st"
    rw [dec_int]
    refine ite_b (p := g = 0) (by by_cases h : g = 0 <;> simp [h] <;> omega) (fun h => ?_) fun h => ?_
    · repeat walk_at "st"
      rw [show tile - 1 = x by rw [hx, if_pos h]]
      exact hq
    · repeat walk_at "st"
      rw [show tile + 1 = x by rw [hx, if_neg h]]
      exact hq
  have em : movedM size tile side move = if 0 ≤ x ∧ x < size then (x, g) else (tile, 1 - g) := by unfold movedM; rw [if_neg h2, hx, hg]
  repeat walk_at "st"
  refine ite_b (p := 0 ≤ x) rfl (fun h0 => ?_) fun h0 => ?_
  · repeat walk_at "st"
    refine ite_b (p := x < size) rfl (fun h1 => ?_) fun h1 => ?_
    · repeat walk_at "st"
      exact fin x g (by rw [em, if_pos ⟨h0, h1⟩])
    · repeat walk_at "st"
      rw [show (1 : Int) - (g : Int) = ((1 - g : Nat) : Int) by omega]
      exact fin tile (1 - g) (by rw [em, if_neg fun q => h1 q.2])
  · repeat walk_at "st"
    refine iteF ?_
    repeat walk_at "st"
    rw [show (1 : Int) - (g : Int) = ((1 - g : Nat) : Int) by omega]
    exact fin tile (1 - g) (by rw [em, if_neg fun q => h0 q.1])
theorem ok_act {f : Addr} {fd : FuncData} (F : Fun K "act" "act" s_act f fd) (T : Txt w K mg a)
    {f_moved : Addr} {fd_moved : FuncData} (G_moved : Cal P w K mg base "moved" 1 f_moved fd_moved ps_moved (sp_moved K a)) :
    FnOk P w K mg base CX0 2 f fd ps_act (sp_act K a) := by
  refine F.ok sc_act (fun vs H Q E h => ?_) (fun cdv A outer s H vs Q E hr h => ?_)
  · obtain ⟨A, pd, l, rq, sl, r, rfl, hA, S, hl, hrq, ho1, ho2, ho3, k⟩ := h
    rfl
  obtain ⟨A, pd, l, rq, sl, r, rfl, hA, S, hl, hrq, ho1, ho2, ho3, k⟩ := h
  have hu := hu_of hr
  refine ⟨_, 
    (pss_cons (ps_asg (pv 2) (pg_tup rfl (pgs_cons (pg_name (i := 3) sc_act.nd rfl (.inl rfl)) (pgs_cons (pg_name (i := 4) sc_act.nd rfl (.inl rfl)) (pgs_cons (pg_name (i := 5) sc_act.nd rfl (.inl rfl)) pgs_nil))))) 
    (pss_cons (ps_set (i := 6) sc_act.nd rfl (.inl rfl) (pe_dget1 hu (pe_fld (pv 0) rfl) (pe_tup (pa_cons (pv 5) (pa_cons (pe_ix ix_list (pv 1) (pv 3) (fun _ _ => rfl)) pa_nil))) ⟨rfl, rfl, rfl, rfl⟩)) 
    (pss_cons (ps_if (pt_cmpR op_isN (pv 6) pe_non (nomark _)) 
      (pss_one (ps_ret (pe_tup (pa_cons pe_str (pa_cons (pv 2) pa_nil))))) pss_nil) 
    (pss_cons (ps_asg (pv 6) (pg_tup rfl (pgs_cons (pg_name (i := 7) sc_act.nd rfl (.inl rfl)) (pgs_cons (pg_name (i := 8) sc_act.nd rfl (.inl rfl)) (pgs_cons (pg_name (i := 9) sc_act.nd rfl (.inl rfl)) pgs_nil))))) 
    (pss_cons (ps_asg (pv 7) (pg_sub (pv 1) (pv 3) set_list)) 
    (pss_cons (ps_asg (pe_call G_moved.ok (hr.mono (by decide)) rfl G_moved.mg' G_moved.kp G_moved.b .nil pass0 (pa_cons (pe_fld (pv 0) rfl) (pa_cons (pv 3) (pa_cons (pv 4) (pa_cons (pv 8) pa_nil))))) (pg_tup rfl (pgs_cons (pg_name (i := 10) sc_act.nd rfl (.inl rfl)) (pgs_cons (pg_name (i := 11) sc_act.nd rfl (.inl rfl)) pgs_nil)))) 
    (pss_one (ps_ret (pe_tup (pa_cons (pe_ix ix_tup (pgR rfl T.g_MOVES) (pv 8) (fun _ _ => rfl)) (pa_cons (pe_tup (pa_cons (pv 10) (pa_cons (pv 11) (pa_cons (pv 9) pa_nil)))) pa_nil))))))))))), ?_⟩
  obtain ⟨dp, hp⟩ := hA.ob
  obtain ⟨kvs, hkv, hkvs⟩ := hA.rl
  have hok := act_ok S ho1 ho2 ho3
  have ht := ho3.t
  have hti : r.1.toNat < sl.length := by omega
  have e0 : atI (natsV sl) r.1 = some (.int ((sl.getD r.1.toNat 0 : Nat) : Int)) := by
    rw [show r.1 = ((r.1.toNat : Nat) : Int) by omega]
    exact nat_at (fl_map' hti)
  repeat walk_at "st"
  refine r_gTup (xs := [.int r.1, .int (r.2.1 : Int), .int (r.2.2 : Int)]) (SqT.of hrq) rfl ?_
  repeat walk_at "st"
  refine r_dget1 ?_
  repeat walk_at "st"
  refine r_fldOf hp T.cl_Plan T.n_Plan_rules rfl ?_
  refine ⟨A.rl, rfl, .inr ⟨kvs, .of hkv⟩, ?_⟩
  repeat walk_at "st"
  refine r_ixL (SqL.of hl) e0 ?_
  repeat walk_at "st"
  refine ⟨by show 2 ≤ sizeLine; decide, fun tk ntk => ?_⟩
  have sK : Same H (upd H tk (.tup [.int (r.2.2 : Int), .int ((sl.getD r.1.toNat 0 : Nat) : Int)])) := Same.new ntk
  have eK : (upd H tk (.tup [.int (r.2.2 : Int), .int ((sl.getD r.1.toNat 0 : Nat) : Int)])) tk = some (.tup ([Sum.inl (r.2.2 : Int), Sum.inl ((sl.getD r.1.toNat 0 : Nat) : Int)].map kV)) := upd_same
  generalize upd H tk (.tup [.int (r.2.2 : Int), .int ((sl.getD r.1.toNat 0 : Nat) : Int)]) = H1 at sK eK ⊢
  refine ⟨_, DGet.t (sK _ _ hkv) eK, ?_⟩
  cases hR : ruleAt pd.rules (r.2.2, sl.getD r.1.toNat 0) with
  | none =>
    have hv : valV kvs [Sum.inl (r.2.2 : Int), Sum.inl ((sl.getD r.1.toNat 0 : Nat) : Int)] = none := rl_no hkvs hR
    rw [hv]
    show gName 6 .non _ _ _
    repeat walk_at "st"
    refine iteT ?_
    repeat walk_at "st"
    refine ⟨by show 2 ≤ sizeLine; decide, fun q nq => ?_⟩
    have em : actM pd sl r = (("rest" : Str), r, sl) := by unfold actM; rw [hR]
    refine k _ q rq (Keep.same (sK.trans (Same.new nq))) (by rw [em]; exact upd_kept (sK _ _ hl) (ne_of_none (sK _ _ hl) nq)) (none_back sK nq) (by rw [em]; exact upd_same) ?_
    rw [em]
    exact upd_kept (sK _ _ hrq) (ne_of_none (sK _ _ hrq) nq)
  | some x =>
    obtain ⟨i, d, m⟩ := x
    have hm : ((r.2.2, sl.getD r.1.toNat 0), i, d, m) ∈ pd.rules := rule_mem hR
    have B := S.rl _ hm
    dsimp only at B
    obtain ⟨qv, hv1, hv2⟩ := rl_get hkvs hR
    dsimp only at hv1 hv2
    rw [hv1]
    show gName 6 (.ref qv) _ _ _
    repeat walk_at "st"
    refine iteF ?_
    repeat walk_at "st"
    refine r_gTup (xs := [.int (i : Int), .int (d : Int), .int (m : Int)]) (SqT.of (sK _ _ hv2)) rfl ?_
    repeat walk_at "st"
    refine r_gSub' ?_
    repeat walk_at "st"
    have hl1 := sK _ _ hl
    refine ⟨l, _, r.1, r.1.toNat, rfl, rfl, hl1, ?_, ?_⟩
    · show (if _ then _ else _) = _
      rw [if_pos ht.1, if_pos (by unfold natsV; rw [List.length_map]; omega)]
    have eS : (natsV sl).set r.1.toNat (.int (i : Int)) = natsV (sl.set r.1.toNat i) := by unfold natsV; rw [List.map_set]
    rw [eS]
    have k2 : Keep l H (upd H1 l (.lst (natsV (sl.set r.1.toNat i)))) := fun b o e n => by rw [upd_ne n]; exact sK _ _ e
    have e2 : (upd H1 l (.lst (natsV (sl.set r.1.toNat i)))) l = some (.lst (natsV (sl.set r.1.toNat i))) := upd_same
    have n2 : ∀ p, (upd H1 l (.lst (natsV (sl.set r.1.toNat i)))) p = none → H p = none := fun p n => by
      by_cases h : p = l
      · rw [h, e2] at n; cases n
      · rw [upd_ne h] at n; exact none_back sK n
    generalize upd H1 l (.lst (natsV (sl.set r.1.toNat i))) = H2 at k2 e2 n2 ⊢
    repeat walk_at "st"
    refine r_fldOf (k2 _ _ hp (ne_of hp hl (by intro z; cases z))) T.cl_Plan T.n_Plan_size rfl ?_
    repeat walk_at "st"
    refine ⟨pd.size, r.1, r.2.1, d, rfl, ho3.s, fun H3 q2 s3 nq2 e3 => ?_⟩
    refine r_gTup (xs := [.int (movedM pd.size r.1 r.2.1 d).1, .int ((movedM pd.size r.1 r.2.1 d).2 : Int)]) (SqT.of e3) rfl ?_
    repeat walk_at "st"
    refine r_ixT (xs := MOVESs.map V.str) T.t_MOVES.sq (nat_at (map_getD (show d < MOVESs.length from B.2.2.2.1))) ?_
    repeat walk_at "st"
    refine ⟨by show 3 ≤ sizeLine; decide, fun q3 nq3 => ?_⟩
    repeat walk_at "st"
    refine ⟨by show 2 ≤ sizeLine; decide, fun q nq => ?_⟩
    have em : actM pd sl r = (MOVESs.getD d Str.empty, ((movedM pd.size r.1 r.2.1 d).1, (movedM pd.size r.1 r.2.1 d).2, m), sl.set r.1.toNat i) := by unfold actM; rw [hR]
    have n33 : q3 ≠ q := ne_of_none upd_same nq
    refine k _ q q3 (Keep.trans k2 (Keep.same ((s3.trans (Same.new nq3)).trans (Same.new nq)))) ?_ (n2 q (none_back s3 (none_back (Same.new nq3) nq))) (by rw [em]; exact upd_same) ?_
    · rw [em]
      exact Same.new nq _ _ (Same.new nq3 _ _ (s3 _ _ e2))
    · rw [em]
      exact upd_kept upd_same n33
theorem ok_perform {f : Addr} {fd : FuncData} (F : Fun K "perform" "perform" s_perform f fd) (T : Txt w K mg a)
    {f_act : Addr} {fd_act : FuncData} (G_act : Cal P w K mg base "act" 2 f_act fd_act ps_act (sp_act K a)) :
    FnOk P w K mg base CX0 3 f fd ps_perform (sp_perform K a) := by
  refine F.ok sc_perform (fun vs H Q E h => ?_) (fun cdv A outer s H vs Q E hr h => ?_)
  · obtain ⟨A, pd, B, d, rfl, hA, S, hB, hO, k⟩ := h
    rfl
  obtain ⟨A, pd, B, d, rfl, hA, S, hB, hO, k⟩ := h
  have hu := hu_of hr
  refine ⟨_, 
    (pss_cons (ps_asg (pv 1) (pg_tup rfl (pgs_cons (pg_name (i := 2) sc_perform.nd rfl (.inl rfl)) (pgs_cons (pg_name (i := 3) sc_perform.nd rfl (.inl rfl)) pgs_nil)))) 
    (pss_cons (ps_set (i := 4) sc_perform.nd rfl (.inl rfl) (pe_callTy call_list_of (by rfl) T.n_list (by decide +kernel) (pa_cons (pv 2) pa_nil))) 
    (pss_cons (ps_set (i := 5) sc_perform.nd rfl (.inl rfl) (pe_lst pa_nil)) 
    (pss_cons (ps_set (i := 6) sc_perform.nd rfl (.inl rfl) (pe_lst pa_nil)) 
    (pss_cons (ps_for PassesOwn.never rfl (pi_tup (pv 3)) (pg_name (i := 7) sc_perform.nd rfl (.inl rfl)) 
      (pss_cons (ps_asg (pe_call G_act.ok (hr.mono (by decide)) rfl G_act.mg' G_act.kp G_act.b .nil pass0 (pa_cons (pv 0) (pa_cons (pv 4) (pa_cons (pv 7) pa_nil)))) (pg_tup rfl (pgs_cons (pg_name (i := 8) sc_perform.nd rfl (.inl rfl)) (pgs_cons (pg_name (i := 9) sc_perform.nd rfl (.inl rfl)) pgs_nil)))) 
      (pss_cons (ps_expr (pe_bm PySem.F.plainAttrs_list PySem.F.slot_list_append PySem.F.type_list_append mt_append (pv 6) (pa_cons (pv 8) pa_nil))) 
      (pss_one (ps_expr (pe_bm PySem.F.plainAttrs_list PySem.F.slot_list_append PySem.F.type_list_append mt_append (pv 5) (pa_cons (pv 9) pa_nil))))))) 
    (pss_one (ps_ret (pe_tup (pa_cons (pv 6) (pa_cons (pe_tup (pa_cons (pe_callTy call_tuple_of (by rfl) T.n_tuple (by decide +kernel) (pa_cons (pv 4) pa_nil)) (pa_cons (pe_callTy call_tuple_of (by rfl) T.n_tuple (by decide +kernel) (pa_cons (pv 5) pa_nil)) pa_nil))) pa_nil)))))))))), ?_⟩
  have szl : 10000 ≤ sizeLine := by decide
  obtain ⟨qs, hr1, hr2⟩ := hB.r
  have hok := hO.k
  repeat walk_at "st"
  refine r_gTup (xs := [.ref B.s, .ref B.r]) (SqT.of hB.q) rfl ?_
  repeat walk_at "st"
  refine ⟨B.s, _, rfl, .inr (SqT.of hB.s), fun sl nsl => ?_⟩
  repeat walk_at "st"
  refine ⟨by show 0 ≤ sizeLine; omega, fun rl nrl => ?_⟩
  repeat walk_at "st"
  refine ⟨by show 0 ≤ sizeLine; omega, fun wl nwl => ?_⟩
  have n1 : sl ≠ rl := ne_of_none upd_same nrl
  have n2 : rl ≠ wl := ne_of_none upd_same nwl
  have n3 : sl ≠ wl := ne_of_none (upd_kept upd_same n1) nwl
  have s3 : Same H (upd (upd (upd H sl (.lst (natsV d.signs))) rl (.lst [])) wl (.lst [])) := ((Same.new nsl).trans (Same.new nrl)).trans (Same.new nwl)
  have e1 : (upd (upd (upd H sl (.lst (natsV d.signs))) rl (.lst [])) wl (.lst [])) sl = some (.lst (natsV d.signs)) := upd_kept (upd_kept upd_same n1) n3
  have e2 : (upd (upd (upd H sl (.lst (natsV d.signs))) rl (.lst [])) wl (.lst [])) rl = some (.lst (([] : List Addr).map V.ref)) := upd_kept upd_same n2
  have e3 : (upd (upd (upd H sl (.lst (natsV d.signs))) rl (.lst [])) wl (.lst [])) wl = some (.lst (([] : List Str).map V.str)) := upd_same
  have nrl' := none_back (Same.new (o := .lst (natsV d.signs)) nsl) nrl
  have nwl' := none_back (Same.new (o := .lst (natsV d.signs)) nsl) (none_back (Same.new (o := .lst []) nrl) nwl)
  generalize upd (upd (upd H sl (.lst (natsV d.signs))) rl (.lst [])) wl (.lst []) = H1 at s3 e1 e2 e3 ⊢
  repeat walk_at "st"
  refine r_itT (SqT.of (s3 _ _ hr1)) ?_
  refine for_tup (xs := qs.map V.ref) (fun i σ H2 => ∃ (ps : List Addr) (sg : List Nat) (ws : List Str) (rs : List RobD), actsM pd (d.robots.take i) d.signs = (ws, rs, sg) ∧ (sg.length : Int) = pd.size ∧ (∀ i ∈ sg, i < pd.signs.length) ∧ Same H H2 ∧
      H2 sl = some (.lst (natsV sg)) ∧ H2 rl = some (.lst (ps.map V.ref)) ∧ Paired (RoAt H2) ps rs ∧ H2 wl = some (.lst (ws.map V.str)) ∧ ∃ x7 x8 x9, σ = [some (.ref A.p), some (.ref B.q), some (.ref B.s), some (.ref B.r), some (.ref sl), some (.ref rl), some (.ref wl), x7, x8, x9])
    ⟨[], d.signs, [], [], rfl, hO.n, hO.s, s3, e1, e2, .nil, e3, _, _, _, rfl⟩ ?_ ?_ ?_
  · rintro i σ H2 _ ⟨_, _, _, _, _, _, _, s2, _⟩
    exact SqT.of (s2 _ _ hr1)
  · rintro i x σ H2 hx ⟨ps, sg, ws, rs, ha, ho1, ho2, s2, g1, g2, g3, g4, x7, x8, x9, rfl⟩
    rw [List.getElem?_map] at hx
    cases hq : qs[i]? with
    | none => rw [hq] at hx; cases hx
    | some q =>
      rw [hq] at hx
      cases hx
      obtain ⟨r, hr3, hr4⟩ := paired_get hr2 hq
      have hro := hO.r r (List.mem_of_getElem? hr3)
      have hlen := acts_len (pd := pd) (d.robots.take i) d.signs
      rw [ha, List.length_take] at hlen
      dsimp only at hlen
      have hpl := PySem.Paired.length g3
      have hsn := acts_snoc (pd := pd) (d.robots.take i) r d.signs
      rw [ha] at hsn
      dsimp only at hsn
      have htk : d.robots.take (i + 1) = d.robots.take i ++ [r] := by rw [List.take_add_one, hr3]; rfl
      have hac := act_ok S ho1 ho2 hro
      repeat walk_at "st"
      refine ⟨A, pd, sl, q, sg, r, rfl, hA.mono s2, S, g1, s2 _ _ hr4, ho1, ho2, hro, fun H3 qq rq' kp h1 nqq h2 h3 => ?_⟩
      refine r_gTup (xs := [.str (actM pd sg r).1, .ref rq']) (SqT.of h2) rfl ?_
      repeat walk_at "st"
      have g4' := kp _ _ g4 n3.symm
      refine r_tyL (SqL.of g4') ?_
      repeat walk_at "st"
      refine r_app g4' (by rw [List.length_map]; omega) ?_
      have g2' : (upd H3 wl (.lst (ws.map V.str ++ [.str (actM pd sg r).1]))) rl = some (.lst (ps.map V.ref)) := upd_kept (kp _ _ g2 n1.symm) n2
      repeat walk_at "st"
      refine r_tyL (SqL.of g2') ?_
      repeat walk_at "st"
      refine r_app g2' (by rw [List.length_map]; omega) ?_
      refine ⟨ps ++ [rq'], (actM pd sg r).2.2, ws ++ [(actM pd sg r).1], rs ++ [(actM pd sg r).2.1], by rw [htk]; exact hsn, hac.2.1, hac.2.2.1, Same.mut (Same.mut (kp_from s2 nsl kp) nwl') nrl', ?_, ?_, ?_, ?_, _, _, _, rfl⟩
      · rw [upd_ne n1, upd_ne n3]; exact h1
      · rw [upd_same, List.map_append]; rfl
      · refine Paired.snoc (Paired.mapP g3 fun q' r' e => ?_) ?_
        · exact upd_kept (upd_kept (kp _ _ e (ne_of e g1 (by intro z; cases z))) (ne_of e g4 (by intro z; cases z))) (ne_of e g2 (by intro z; cases z))
        · exact upd_kept (upd_kept h3 (ne_of h3 g4' (by intro z; cases z))) (ne_of h3 (kp _ _ g2 n1.symm) (by intro z; cases z))
      · rw [upd_ne n2.symm, upd_same, List.map_append]; rfl
  rintro σ H2 ⟨ps, sg, ws, rs, ha, ho1, ho2, s2, g1, g2, g3, g4, x7, x8, x9, rfl⟩
  rw [List.length_map, PySem.Paired.length hr2, List.take_length] at ha
  repeat walk_at "st"
  refine ⟨sl, _, rfl, .inl ⟨SqL.of g1, fun a1 na1 => ?_⟩⟩
  repeat walk_at "st"
  refine ⟨rl, _, rfl, .inl ⟨SqL.of (upd_kept g2 (ne_of_none g2 na1)), fun a2 na2 => ?_⟩⟩
  repeat walk_at "st"
  refine ⟨by show 2 ≤ sizeLine; omega, fun q1 nq1 => ?_⟩
  repeat walk_at "st"
  refine ⟨by show 2 ≤ sizeLine; omega, fun q2 nq2 => ?_⟩
  have t1 : Same H2 (upd H2 a1 (.tup (natsV sg))) := Same.new na1
  have t2 := t1.trans (Same.new (o := .tup (ps.map V.ref)) na2)
  have t3 := t2.trans (Same.new (o := .tup [.ref a1, .ref a2]) nq1)
  have t4 := t3.trans (Same.new (o := .tup [.ref wl, .ref q1]) nq2)
  have em : performM pd d = (ws, ⟨sg, rs⟩) := by unfold performM; rw [ha]
  have m1 : a1 ≠ a2 := ne_of_none upd_same na2
  have m2 : a2 ≠ q1 := ne_of_none upd_same nq1
  have m3 : q1 ≠ q2 := ne_of_none upd_same nq2
  have m4 : a1 ≠ q1 := ne_of_none (upd_kept upd_same m1) nq1
  have m5 : a2 ≠ q2 := ne_of_none (upd_kept upd_same m2) nq2
  have m6 : a1 ≠ q2 := ne_of_none (upd_kept (upd_kept upd_same m1) m4) nq2
  refine k _ q2 wl ⟨q1, a1, a2⟩ (s2.trans t4) (none_back (s2.trans t3) nq2) upd_same nwl' ?_ ?_
  · rw [em]; exact t4 _ _ g4
  · rw [em]
    exact ⟨upd_kept upd_same m3, upd_kept (upd_kept (upd_kept upd_same m1) m4) m6, ⟨ps, upd_kept (upd_kept upd_same m2) m5, Paired.mapP g3 fun _ _ e => t4 _ _ e⟩⟩
theorem ok_first_situation {f : Addr} {fd : FuncData} (F : Fun K "first_situation" "first_situation" s_first_situation f fd) (T : Txt w K mg a)
     :
    FnOk P w K mg base CX0 1 f fd ps_first_situation (sp_first_situation K a) := by
  refine F.ok sc_first_situation (fun vs H Q E h => ?_) (fun cdv A outer s H vs Q E hr h => ?_)
  · obtain ⟨A, pd, rfl, hA, S, k⟩ := h
    rfl
  obtain ⟨A, pd, rfl, hA, S, k⟩ := h
  have hu := hu_of hr
  refine ⟨_, 
    (pss_cons (ps_setLc (i := 1) (own := [("tile", 3)]) (tt := tYes) rfl sc_first_situation.nd rfl rfl (sw_true rfl rfl rfl (by decide +kernel)) (pi_range1 (by rfl) T.n_range (pa_cons (pe_fld (pv 0) rfl) pa_nil)) (blkOk_by (own := [("tile", 3)]) (N := nm_first_situation) (sc := defScope s_first_situation) (by decide +kernel)) (fun _ _ _ _ _ => pg_name (i := 3) sc_first_situation.nd rfl (.inl rfl)) (fun _ _ _ _ _ => pts_nil) (fun _ _ _ _ _ => (pe_dget2 (by exact hu) (show PE _ _ (tFld K _ _) from pe_fld (pv 0) rfl) (pv 3) pe_int ⟨rfl, rfl, rfl, rfl⟩))) 
    (pss_cons (ps_setLc (i := 2) (own := [("tile", 3), ("side", 4)]) (tt := tYes) rfl sc_first_situation.nd rfl rfl (sw_true rfl rfl rfl (by decide +kernel)) (pi_list (pe_fld (pv 0) rfl)) (blkOk_by (own := [("tile", 3), ("side", 4)]) (N := nm_first_situation) (sc := defScope s_first_situation) (by decide +kernel)) (fun _ _ _ _ _ => (show PG _ _ (gTup K 2 _) from pg_tup rfl (pgs_cons (pg_name (i := 3) sc_first_situation.nd rfl (.inl rfl)) (pgs_cons (pg_name (i := 4) sc_first_situation.nd rfl (.inl rfl)) pgs_nil)))) (fun _ _ _ _ _ => pts_nil) (fun _ _ _ _ _ => (pe_tup (pa_cons (pv 3) (pa_cons (pv 4) (pa_cons pe_int pa_nil)))))) 
    (pss_one (ps_ret (pe_tup (pa_cons (pe_callTy call_tuple_of (by rfl) T.n_tuple (by decide +kernel) (pa_cons (pv 1) pa_nil)) (pa_cons (pe_callTy call_tuple_of (by rfl) T.n_tuple (by decide +kernel) (pa_cons (pv 2) pa_nil)) pa_nil))))))), ?_⟩
  have szl : 10000 ≤ sizeLine := by decide
  obtain ⟨dp, hp⟩ := hA.ob
  obtain ⟨qs, hr1, hr2⟩ := hA.rb
  have z1 := S.sz
  repeat walk_at "st"
  refine r_lc ?_
  repeat walk_at "st"
  refine r_fldOf hp T.cl_Plan T.n_Plan_size rfl ?_
  repeat walk_at "st"
  obtain ⟨n, hn⟩ : ∃ n : Nat, pd.size = (n : Int) := ⟨pd.size.toNat, by omega⟩
  rw [hn]
  refine ⟨_, rfl, by omega, by omega, fun D nD => ?_⟩
  refine lc_range (fun i H1 => Same H H1 ∧ H1 D = some (.lst (natsV ((List.range i).map fun (t : Nat) => (putAt pd.puts (t : Int)).getD 0)))) ⟨Same.new nD, upd_same⟩ ?_ ?_
  · rintro i H1 hi ⟨s1, g1⟩
    rw [Int.toNat_natCast] at hi
    rw [show (0 : Int) + (i : Int) = (i : Int) by omega]
    refine r_gname ?_
    refine ⟨rfl, ?_⟩
    refine r_yes' ?_
    refine iteT ?_
    refine r_dget2 ?_
    repeat walk_at "st"
    refine r_fldOf (s1 _ _ hp) T.cl_Plan T.n_Plan_puts rfl ?_
    refine ⟨A.pt, rfl, .inl ⟨_, .of (s1 _ _ hA.pt)⟩, ?_⟩
    repeat walk_at "st"
    refine ⟨_, DGet.k (k := Sum.inl (i : Int)) (s1 _ _ hA.pt), ?_⟩
    have ev : (valV (ptV pd.puts) (Sum.inl (i : Int))).getD (.int 0) = .int (((putAt pd.puts (i : Int)).getD 0 : Nat) : Int) := by
      cases hq : putAt pd.puts (i : Int) with
      | none => rw [pt_no hq]; rfl
      | some v => rw [pt_get hq]; rfl
    rw [ev]
    refine ⟨_, g1, by unfold natsV; rw [List.length_map, List.length_map, List.length_range]; omega, Same.mut s1 nD, ?_⟩
    rw [upd_same, List.range_succ, List.map_append]
    unfold natsV
    rw [List.map_append]
    rfl
  rintro H1 ⟨s1, g1⟩
  rw [Int.toNat_natCast] at g1
  repeat walk_at "st"
  refine r_lc ?_
  repeat walk_at "st"
  refine r_fldOf (s1 _ _ hp) T.cl_Plan T.n_Plan_robots rfl ?_
  refine r_itL (SqL.of (s1 _ _ hr1)) ?_
  intro D2 nD2
  refine lc_list (xs := qs.map V.ref) (fun i H2 => Same H1 H2 ∧ ∃ ps : List Addr, H2 D2 = some (.lst (ps.map V.ref)) ∧ Paired (RoAt H2) ps ((pd.robots.take i).map fun r => (r.1, r.2, 0))) ⟨Same.new nD2, [], upd_same, .nil⟩ ?_ ?_ ?_
  · rintro i H2 _ ⟨s2, _⟩
    exact SqL.of (s2 _ _ (s1 _ _ hr1))
  · rintro i x H2 hx ⟨s2, ps, g2, g3⟩
    rw [List.getElem?_map] at hx
    cases hq : qs[i]? with
    | none => rw [hq] at hx; cases hx
    | some q =>
      rw [hq] at hx
      cases hx
      obtain ⟨r, hr3, hr4⟩ := paired_get hr2 hq
      have hpl := PySem.Paired.length g3
      rw [List.length_map, List.length_take] at hpl
      have hrn := S.rn
      refine r_gTup (xs := [.int r.1, .int (r.2 : Int)]) (SqT.of (s2 _ _ (s1 _ _ hr4))) rfl ?_
      repeat walk_at "st"
      refine ⟨rfl, ?_⟩
      refine r_yes' ?_
      refine iteT ?_
      repeat walk_at "st"
      refine ⟨by show 3 ≤ sizeLine; omega, fun q3 nq3 => ?_⟩
      have g2' : (upd H2 q3 (.tup [.int r.1, .int (r.2 : Int), .int 0])) D2 = some (.lst (ps.map V.ref)) := upd_kept g2 (ne_of_none g2 nq3)
      refine ⟨_, g2', by rw [List.length_map]; omega, Same.mut (s2.trans (Same.new nq3)) nD2, ps ++ [q3], by rw [upd_same, List.map_append]; rfl, ?_⟩
      rw [List.take_add_one, hr3, List.map_append]
      refine Paired.snoc (Paired.mapP g3 fun q' r' e => ?_) ?_
      · exact upd_kept (upd_kept e (ne_of_none e nq3)) (ne_of (upd_kept e (ne_of_none e nq3)) g2' (by intro z; cases z))
      · exact upd_kept upd_same (ne_of upd_same g2' (by intro z; cases z))
  rintro H2 ⟨s2, ps, g2, g3⟩
  rw [List.length_map, PySem.Paired.length hr2, List.take_length] at g3
  have g1' := s2 _ _ g1
  repeat walk_at "st"
  refine ⟨D, _, rfl, .inl ⟨SqL.of g1', fun a1 na1 => ?_⟩⟩
  repeat walk_at "st"
  refine ⟨D2, _, rfl, .inl ⟨SqL.of (upd_kept g2 (ne_of_none g2 na1)), fun a2 na2 => ?_⟩⟩
  repeat walk_at "st"
  refine ⟨by show 2 ≤ sizeLine; omega, fun q1 nq1 => ?_⟩
  have t3 := ((Same.new (o := .tup (natsV ((List.range n).map fun (t : Nat) => (putAt pd.puts (t : Int)).getD 0))) na1).trans (Same.new (o := .tup (ps.map V.ref)) na2)).trans (Same.new (o := .tup [.ref a1, .ref a2]) nq1)
  have m1 : a1 ≠ a2 := ne_of_none upd_same na2
  have m2 : a2 ≠ q1 := ne_of_none upd_same nq1
  have m4 : a1 ≠ q1 := ne_of_none (upd_kept upd_same m1) nq1
  have em : firstM pd = ⟨(List.range n).map fun (t : Nat) => (putAt pd.puts (t : Int)).getD 0, pd.robots.map fun r => (r.1, r.2, 0)⟩ := by unfold firstM; rw [hn, Int.toNat_natCast]
  refine k _ ⟨q1, a1, a2⟩ ((s1.trans s2).trans t3) ?_
  rw [em]
  exact ⟨upd_same, upd_kept (upd_kept upd_same m1) m4, ⟨ps, upd_kept upd_same m2, Paired.mapP g3 fun _ _ e => t3 _ _ e⟩⟩
theorem ok_robot_tuples {f : Addr} {fd : FuncData} (F : Fun K "robot_tuples" "robot_tuples" s_robot_tuples f fd) (T : Txt w K mg a)
     :
    FnOk P w K mg base CX0 1 f fd ps_robot_tuples (sp_robot_tuples K a) := by
  refine F.ok sc_robot_tuples (fun vs H Q E h => ?_) (fun cdv A outer s H vs Q E hr h => ?_)
  · obtain ⟨A, pd, p, l, qs, rfl, hA, hl, hq0, ho1, ho2, k⟩ := h
    rfl
  obtain ⟨A, pd, p, l, qs, rfl, hA, hl, hq0, ho1, ho2, k⟩ := h
  have hu := hu_of hr
  refine ⟨_, 
    (pss_one (ps_ret (pe_lc (own := [("tile", 2), ("side", 3), ("mood", 4)]) (tt := tYes) rfl sc_robot_tuples.nd (pi_tup (pv 1)) (blkOk_by (own := [("tile", 2), ("side", 3), ("mood", 4)]) (N := nm_robot_tuples) (sc := defScope s_robot_tuples) (by decide +kernel)) (fun _ _ _ _ _ => (show PG _ _ (gTup K 3 _) from pg_tup rfl (pgs_cons (pg_name (i := 2) sc_robot_tuples.nd rfl (.inl rfl)) (pgs_cons (pg_name (i := 3) sc_robot_tuples.nd rfl (.inl rfl)) (pgs_cons (pg_name (i := 4) sc_robot_tuples.nd rfl (.inl rfl)) pgs_nil))))) (fun _ _ _ _ _ => pts_nil) (fun _ _ _ _ _ => (pe_tup (pa_cons (pv 2) (pa_cons (pe_ix (show IxR _ (rIxT K) from ix_tup) (pgR rfl T.g_SIDES) (pv 3) (fun _ _ => rfl)) (pa_cons (pe_ix (show IxR _ (rIxL K) from ix_list) (show PE _ _ (tFld K _ _) from pe_fld (pv 0) rfl) (pv 4) (fun _ _ => rfl)) pa_nil)))))))), ?_⟩
  have szl : 10000 ≤ sizeLine := by decide
  obtain ⟨dp, hp⟩ := hA.ob
  repeat walk_at "st"
  refine r_lc ?_
  repeat walk_at "st"
  refine r_itT (SqT.of hl) ?_
  intro D nD
  refine lc_tup (xs := qs.map V.ref) (fun i H1 => Same H H1 ∧ ∃ ps : List Addr, H1 D = some (.lst (ps.map V.ref)) ∧ Paired (RtAt pd H1) ps (l.take i)) ⟨Same.new nD, [], upd_same, .nil⟩ ?_ ?_ ?_
  · rintro i H1 _ ⟨s1, _⟩
    exact SqT.of (s1 _ _ hl)
  · rintro i x H1 hx ⟨s1, ps, g1, g2⟩
    rw [List.getElem?_map] at hx
    cases hq : qs[i]? with
    | none => rw [hq] at hx; cases hx
    | some q =>
      rw [hq] at hx
      cases hx
      obtain ⟨r, hr3, hr4⟩ := paired_get hq0 hq
      have hro := ho1 r (List.mem_of_getElem? hr3)
      have hpl := PySem.Paired.length g2
      rw [List.length_take] at hpl
      refine r_gTup (xs := [.int r.1, .int (r.2.1 : Int), .int (r.2.2 : Int)]) (SqT.of (s1 _ _ hr4)) rfl ?_
      repeat walk_at "st"
      refine ⟨rfl, ?_⟩
      refine r_yes' ?_
      refine iteT ?_
      repeat walk_at "st"
      refine r_ixT (xs := SIDESs.map V.str) T.t_SIDES.sq (nat_at (map_getD (show r.2.1 < SIDESs.length from hro.s))) ?_
      repeat walk_at "st"
      refine r_fldOf (s1 _ _ hp) T.cl_Plan T.n_Plan_moods rfl ?_
      repeat walk_at "st"
      refine r_ixL (SqL.of (s1 _ _ hA.md)) (nat_at (map_getD hro.m)) ?_
      repeat walk_at "st"
      refine ⟨by show 3 ≤ sizeLine; omega, fun q3 nq3 => ?_⟩
      have g1' : (upd H1 q3 (.tup [.int r.1, .str (SIDESs.getD r.2.1 Str.empty), .str (pd.moods.getD r.2.2 Str.empty)])) D = some (.lst (ps.map V.ref)) := upd_kept g1 (ne_of_none g1 nq3)
      refine ⟨_, g1', by rw [List.length_map]; omega, Same.mut (s1.trans (Same.new nq3)) nD, ps ++ [q3], by rw [upd_same, List.map_append]; rfl, ?_⟩
      rw [List.take_add_one, hr3]
      refine Paired.snoc (Paired.mapP g2 fun q' r' e => ?_) ?_
      · exact upd_kept (upd_kept e (ne_of_none e nq3)) (ne_of (upd_kept e (ne_of_none e nq3)) g1' (by intro z; cases z))
      · exact upd_kept upd_same (ne_of upd_same g1' (by intro z; cases z))
  · rintro H1 ⟨s1, ps, g1, g2⟩
    rw [List.length_map, PySem.Paired.length hq0, List.take_length] at g2
    exact k H1 D ps s1 nD g1 g2
end
end Sw

/-! Where a tick lies in the cycle. -/
namespace Sw
open PySem L2
def likeM (start length tick : Int) : Int := if tick < start then tick else start + (tick - start) % length
structure RunA where
  p : Addr
  s : Addr
  w : Addr
def RunAt (a : Adr) (H : Hp) (R : RunA) (start length : Int) : Prop := ∃ dx, H R.p = some (.ins a.cRun dx [("situations", .ref R.s), ("words", .ref R.w), ("start", .int start), ("length", .int length)])
def sp_Run_first_like (K : PySem.W.Frag) (a : Adr) : Sp := fun vs H Q _ => ∃ (R : RunA) (start length tick : Int), vs = [.ref R.p, .int tick] ∧ RunAt a H R start length ∧ 0 < length ∧ Q (.int (likeM start length tick)) H
def sp_first_in_cycle (K : PySem.W.Frag) (a : Adr) : Sp := fun vs H Q _ => ∃ start length tick : Int, vs = [.int tick, .int start, .int length] ∧ 0 < length ∧ Q (.int (likeM start length tick)) H
section
variable {P : Program} {w : World} {K : PySem.W.Frag} {mg : Str → Option Value} {base : Heap} {a : Adr}
theorem ok_first_in_cycle {f : Addr} {fd : FuncData} (F : Fun K "first_in_cycle" "first_in_cycle" s_first_in_cycle f fd) (T : Txt w K mg a)
     :
    FnOk P w K mg base CX0 1 f fd ps_first_in_cycle (sp_first_in_cycle K a) := by
  refine F.ok sc_first_in_cycle (fun vs H Q E h => ?_) (fun cdv A outer s H vs Q E hr h => ?_)
  · obtain ⟨start, length, tick, rfl, hl, k⟩ := h
    rfl
  obtain ⟨start, length, tick, rfl, hl, k⟩ := h
  have hu := hu_of hr
  refine ⟨_, 
    (pss_cons (ps_if (pt_cmpR op_lt (pv 0) (pv 1) (nomark _)) 
      (pss_one (ps_ret (pv 0))) pss_nil) 
    (pss_one (ps_ret (pe_op op_add (pv 1) (pe_op op_mod (pe_op op_sub (pv 0) (pv 1)) (pv 2)))))), ?_⟩
  repeat walk_at "st"
  unfold likeM at k
  refine ite_b (p := tick < start) rfl (fun h => ?_) fun h => ?_
  · rw [if_pos h] at k
    repeat walk_at "st"
    exact k
  · rw [if_neg h] at k
    repeat walk_at "st"
    refine r_I hl ?_
    repeat walk_at "st"
    exact k
theorem ok_Run_first_like {f : Addr} {fd : FuncData} (F : Fun K "first_like" "Run.first_like" s_Run_first_like f fd) (T : Txt w K mg a)
    {f_first_in_cycle : Addr} {fd_first_in_cycle : FuncData} (G_first_in_cycle : Cal P w K mg base "first_in_cycle" 1 f_first_in_cycle fd_first_in_cycle ps_first_in_cycle (sp_first_in_cycle K a)) :
    FnOk P w K mg base CX0 2 f fd ps_Run_first_like (sp_Run_first_like K a) := by
  refine F.ok sc_Run_first_like (fun vs H Q E h => ?_) (fun cdv A outer s H vs Q E hr h => ?_)
  · obtain ⟨R, start, length, tick, rfl, ⟨dx, hp⟩, hl, k⟩ := h
    rfl
  obtain ⟨R, start, length, tick, rfl, ⟨dx, hp⟩, hl, k⟩ := h
  have hu := hu_of hr
  refine ⟨_, 
    (pss_one (ps_ret (pe_call G_first_in_cycle.ok (hr.mono (by decide)) rfl G_first_in_cycle.mg' G_first_in_cycle.kp G_first_in_cycle.b .nil pass0 (pa_cons (pv 1) (pa_cons (pe_fld (pv 0) rfl) (pa_cons (pe_fld (pv 0) rfl) pa_nil)))))), ?_⟩
  repeat walk_at "st"
  refine r_fldOf hp T.cl_Run T.n_Run_start rfl ?_
  repeat walk_at "st"
  refine r_fldOf hp T.cl_Run T.n_Run_length rfl ?_
  repeat walk_at "st"
  exact ⟨start, length, tick, rfl, hl, k⟩
end
end Sw

/-! A run: all situations until one comes again. -/
namespace Sw
open PySem L2
/-- the heap without some objects -/
def Cut (xs : List Addr) (H : Hp) : Hp := fun b => if b ∈ xs then none else H b
theorem Cut_none {xs : List Addr} {H : Hp} {x : Addr} (h : x ∈ xs) : Cut xs H x = none := if_pos h
theorem Cut_at {xs : List Addr} {H : Hp} {b : Addr} {o : HO} (h : H b = some o) (n : b ∉ xs) : Cut xs H b = some o := by unfold Cut; rw [if_neg n]; exact h
theorem Cut_same {xs : List Addr} {H : Hp} : Same (Cut xs H) H := fun b o e => by
  unfold Cut at e
  by_cases n : b ∈ xs
  · rw [if_pos n] at e; cases e
  · rw [if_neg n] at e; exact e
theorem Cut_from {xs : List Addr} {F H : Hp} (s : Same F H) (n : ∀ x ∈ xs, F x = none) : Same F (Cut xs H) := fun b o e => Cut_at (s _ _ e) fun h => by rw [n b h] at e; cases e
theorem Same.but {F H H' : Hp} {x : Addr} (s : Same F H) (n : F x = none) (k : ∀ c, c ≠ x → H' c = H c) : Same F H' := fun b o e => by
  rw [k b fun z => by rw [z, n] at e; cases e]
  exact s b o e
theorem nks_nums {H : Hp} : ∀ l : List Nat, NKs H (l.map fun (i : Nat) => .num (i : Int)) (natsV l)
  | [] => .nil
  | x :: l => .cons (.num _) (nks_nums l)
theorem nks_robs {H : Hp} : ∀ {qs : List Addr} {l : List RobD}, Paired (RoAt H) qs l → NKs H (l.map robK) (qs.map V.ref)
  | _, _, .nil => .nil
  | _, _, .cons h t => .cons (.tup h (.cons (.num _) (.cons (.num _) (.cons (.num _) .nil)))) (nks_robs t)
theorem SitAt.nk {H : Hp} {A : SA} {d : SitD} (h : SitAt H A d) : NK H (sitK d) (.ref A.q) := by
  obtain ⟨qs, h1, h2⟩ := h.r
  exact .tup h.q (.cons (.tup h.s (nks_nums _)) (.cons (.tup h1 (nks_robs h2)) .nil))
theorem SitAt.cut {H : Hp} {A : SA} {d : SitD} {xs : List Addr} (h : SitAt H A d) (n : ∀ x ∈ xs, ∀ ys, H x ≠ some (.tup ys)) : SitAt (Cut xs H) A d := by
  obtain ⟨qs, h1, h2⟩ := h.r
  have c : ∀ {b ys}, H b = some (.tup ys) → Cut xs H b = some (.tup ys) := fun {b ys} e => Cut_at e fun m => n b m ys e
  exact ⟨c h.q, c h.s, ⟨qs, c h1, Paired.mapP h2 fun _ _ e => c e⟩⟩
structure RunD (a : Adr) (H : Hp) (R : RunA) (pd : PlanD) (start N : Nat) : Prop where
  i : RunAt a H R (start : Int) ((N : Int) - (start : Int))
  s : ∃ bs : List SA, H R.s = some (.lst (bs.map fun b => V.ref b.q)) ∧ bs.length = N ∧ ∀ i b, bs[i]? = some b → SitAt H b (seqM pd i)
  w : ∃ ws : List Addr, H R.w = some (.lst (ws.map V.ref)) ∧ ws.length = N ∧ ∀ i q, ws[i]? = some q → H q = some (.lst ((wordsM pd i).map V.str))
  c : Cyc pd start N
  n : N ≤ 20000
theorem RunD.same {a : Adr} {H H' : Hp} {R : RunA} {pd : PlanD} {start N : Nat} (h : RunD a H R pd start N) (s : Same H H') : RunD a H' R pd start N := by
  obtain ⟨⟨dx, i⟩, ⟨bs, s1, s2, s3⟩, ⟨ws, w1, w2, w3⟩, c, n⟩ := h
  exact ⟨⟨dx, s _ _ i⟩, ⟨bs, s _ _ s1, s2, fun i b e => (s3 i b e).same s⟩, ⟨ws, s _ _ w1, w2, fun i q e => s _ _ (w3 i q e)⟩, c, n⟩
def sp_Run_init (K : PySem.W.Frag) (a : Adr) : Sp := fun vs H Q _ => ∃ (p dx : Addr) (A : PA) (pd : PlanD), vs = [.ref p, .ref A.p] ∧ H p = some (.ins a.cRun dx []) ∧ PlanAt a H A pd ∧ FitP pd ∧ Early pd ∧
  ∀ H' R start N, R.p = p → RunD a H' R pd start N → Keep p H H' → H R.s = none → H R.w = none → Q .non H'
/-- what the dict of ticks holds -/
def tickV (pd : PlanD) (n : Nat) : List (NestedKey × V) := (List.range n).map fun (i : Nat) => (sitK (seqM pd i), V.int (i : Int))
theorem valV_find {κ : Type} [DecidableEq κ] : ∀ (l : List (κ × V)) (k : κ), valV l k = none ∧ (∀ x ∈ l, x.1 ≠ k) ∨ ∃ x ∈ l, x.1 = k ∧ valV l k = some x.2
  | [], k => .inl ⟨rfl, fun x h => by cases h⟩
  | y :: l, k => by
    by_cases e : y.1 = k
    · exact .inr ⟨y, List.mem_cons_self .., e, valV_pos e⟩
    · rw [valV_neg e]
      rcases valV_find l k with ⟨h1, h2⟩ | ⟨x, h1, h2, h3⟩
      · refine .inl ⟨h1, fun x hx => ?_⟩
        rcases List.mem_cons.mp hx with q | hx
        · rw [q]; exact e
        · exact h2 x hx
      · exact .inr ⟨x, List.mem_cons_of_mem _ h1, h2, h3⟩
theorem tick_val {pd : PlanD} {n : Nat} (d : SitD) : (valV (tickV pd n) (sitK d) = none ∧ ∀ i, i < n → seqM pd i ≠ d) ∨ ∃ i, i < n ∧ seqM pd i = d ∧ valV (tickV pd n) (sitK d) = some (.int (i : Int)) := by
  rcases valV_find (tickV pd n) (sitK d) with ⟨h1, h2⟩ | ⟨x, h1, h2, h3⟩
  · refine .inl ⟨h1, fun i hi e => ?_⟩
    exact h2 (sitK (seqM pd i), .int (i : Int)) (List.mem_map.mpr ⟨i, List.mem_range.mpr hi, rfl⟩) (by rw [e])
  · obtain ⟨i, hi, e⟩ := List.mem_map.mp h1
    subst e
    exact .inr ⟨i, List.mem_range.mp hi, sitK_inj h2, h3⟩
theorem tickV_put {pd : PlanD} {n : Nat} (h : valV (tickV pd n) (sitK (seqM pd n)) = none) : putK (tickV pd n) (sitK (seqM pd n)) (.int (n : Int)) = tickV pd (n + 1) := by
  rw [putK_new _ h]
  unfold tickV
  rw [List.range_succ, List.map_append]
  rfl
section
variable {P : Program} {w : World} {K : PySem.W.Frag} {mg : Str → Option Value} {base : Heap} {a : Adr}
theorem r_nnew {σ : St} {H : Hp} {Q : VK} (h : ∀ p H', H p = none → NDAt P w H' p [] → (∀ c, c ≠ p → H' c = H c) → Q (.ref p) H') : tNNew P w σ H Q := h
theorem r_nin {neg : Bool} {ty td : TE} {σ : St} {H : Hp} {Q : VK} (h : ty σ H fun y H1 => td σ H1 fun x H2 => ∃ a o, x = .ref a ∧ NGet P w H2 a y o ∧ Q (.bl (if neg then !o.isSome else o.isSome)) H2) : tNIn P w neg ty td σ H Q := h
theorem r_nget {ty td : TE} {σ : St} {H : Hp} {Q : VK} (h : td σ H fun x H1 => ty σ H1 fun y H2 => ∃ a v, x = .ref a ∧ NGet P w H2 a y (some v) ∧ Q v H2) : tNGet P w td ty σ H Q := h
theorem r_nput {td ty tv : TE} {D : Ends} {σ : St} {H : Hp} (h : tv σ H fun v H1 => td σ H1 fun x H2 => ty σ H2 fun y H3 => ∃ a kvs k b, x = .ref a ∧ NDAt P w H3 a kvs ∧ y = .ref b ∧ NK H3 k y ∧ k.depth ≤ 8 ∧ kvs.length < sizeLine ∧
  ∀ H4, NDAt P w H4 a (putK kvs k v) → (∀ c, c ≠ a → H4 c = H3 c) → D.nx σ H4) : sNPut P w td ty tv D σ H := h
/-- a plan without an instance that is just made -/
theorem plan_less {H : Hp} {A : PA} {pd : PlanD} {p C dx : Addr} (hA : PlanAt a H A pd) (hp : H p = some (.ins C dx [])) : PlanAt a (Less p H) A pd := by
  obtain ⟨dp, hpl⟩ := hA.ob
  obtain ⟨qs0, hr1, hr2⟩ := hA.rb
  obtain ⟨kvs0, hkv, hkvs⟩ := hA.rl
  have hn : ∀ {b o}, H b = some o → (∀ C d, o ≠ .ins C d []) → Less p H b = some o := fun {b o} e h => Less_at e fun z => by
    rw [z, hp] at e
    cases e
    exact h _ _ rfl
  refine ⟨⟨dp, hn hpl ?_⟩, hn hA.sg ?_, hn hA.md ?_, ⟨qs0, hn hr1 ?_, Paired.mapP hr2 fun _ _ e => hn e ?_⟩, hn hA.pt ?_, ⟨kvs0, hn hkv ?_, Paired.mapP hkvs fun _ _ e => ⟨e.1, let ⟨q, e1, e2⟩ := e.2; ⟨q, e1, hn e2 ?_⟩⟩⟩, hA.d1, hA.d2, hA.d3⟩
  all_goals (intro _ _ z; cases z)
/-- the run so far -/
structure Sofar (P : Program) (w : World) (a : Adr) (pd : PlanD) (G H2 : Hp) (p dx sl wl td : Addr) (B : SA) (n : Nat) : Prop where
  F : ∃ (Fz : Hp) (bs : List SA) (ws : List Addr), Same Fz H2 ∧ Same G Fz ∧ Fz p = none ∧ Fz sl = none ∧ Fz wl = none ∧ Fz td = none ∧
    H2 sl = some (.lst (bs.map fun (b : SA) => V.ref b.q)) ∧ bs.length = n ∧ (∀ i b, bs[i]? = some b → SitAt Fz b (seqM pd i)) ∧
    H2 wl = some (.lst (ws.map V.ref)) ∧ ws.length = n ∧ (∀ i q, ws[i]? = some q → Fz q = some (.lst ((wordsM pd i).map V.str))) ∧ SitAt Fz B (seqM pd n)
  hp : H2 p = some (.ins a.cRun dx [("situations", .ref sl), ("words", .ref wl)])
  nd : NDAt P w H2 td (tickV pd n)
  inj : ∀ i j, i < j → j < n → seqM pd i ≠ seqM pd j
  n : n ≤ 20000
theorem ok_Run_init {f : Addr} {fd : FuncData} (F : Fun K "__init__" "Run.__init__" s_Run_init f fd) (T : Txt w K mg a)
    {f_first_situation : Addr} {fd_first_situation : FuncData} (G_first_situation : Cal P w K mg base "first_situation" 1 f_first_situation fd_first_situation ps_first_situation (sp_first_situation K a))
    {f_perform : Addr} {fd_perform : FuncData} (G_perform : Cal P w K mg base "perform" 3 f_perform fd_perform ps_perform (sp_perform K a)) :
    FnOk P w K mg base CX0 4 f fd ps_Run_init (sp_Run_init K a) := by
  refine F.ok sc_Run_init (fun vs H Q E h => ?_) (fun cdv A outer s H vs Q E hr h => ?_)
  · obtain ⟨p, dx, A, pd, rfl, hp, hA, hF, hE, k⟩ := h
    rfl
  obtain ⟨p, dx, A, pd, rfl, hp, hA, hF, hE, k⟩ := h
  have hu := hu_of hr
  refine ⟨_, 
    (pss_cons (ps_fld (pv 0) (pe_lst pa_nil) rfl) 
    (pss_cons (ps_fld (pv 0) (pe_lst pa_nil) rfl) 
    (pss_cons (ps_set (i := 2) sc_Run_init.nd rfl (.inl rfl) pe_nnew) 
    (pss_cons (ps_set (i := 3) sc_Run_init.nd rfl (.inl rfl) (pe_call G_first_situation.ok (hr.mono (by decide)) rfl G_first_situation.mg' G_first_situation.kp G_first_situation.b .nil pass0 (pa_cons (pv 1) pa_nil))) 
    (pss_cons (ps_while PassesOwn.never (pt_cmp (pc_nnotin hr.units (pv 3) (pv 2))) 
      (pss_cons (ps_set (i := 4) sc_Run_init.nd rfl (.inl rfl) (pe_callB call_len_seq (by rfl) T.n_len PySem.boot_len (pa_cons (pe_fld (pv 0) rfl) pa_nil))) 
      (pss_cons (ps_if (pt_cmpR op_eq (pv 4) (pgI rfl T.g_LAST_REPEAT) (nomark _)) 
        (pss_one ps_never) pss_nil) 
      (pss_cons (ps_nput hr.units (pv 2) (pv 3) (pv 4) rfl) 
      (pss_cons (ps_expr (pe_bm PySem.F.plainAttrs_list PySem.F.slot_list_append PySem.F.type_list_append mt_append (pe_fld (pv 0) rfl) (pa_cons (pv 3) pa_nil))) 
      (pss_cons (ps_asg (pe_call G_perform.ok (hr.mono (by decide)) rfl G_perform.mg' G_perform.kp G_perform.b .nil pass0 (pa_cons (pv 1) (pa_cons (pv 3) pa_nil))) (pg_tup rfl (pgs_cons (pg_name (i := 5) sc_Run_init.nd rfl (.inl rfl)) (pgs_cons (pg_name (i := 3) sc_Run_init.nd rfl (.inl rfl)) pgs_nil)))) 
      (pss_one (ps_expr (pe_bm PySem.F.plainAttrs_list PySem.F.slot_list_append PySem.F.type_list_append mt_append (pe_fld (pv 0) rfl) (pa_cons (pv 5) pa_nil)))))))))) 
    (pss_cons (ps_fld (pv 0) (pe_nget hr.units (pv 2) (pv 3) (fun _ _ => rfl)) rfl) 
    (pss_one (ps_fld (pv 0) (pe_op op_sub (pe_callB call_len_seq (by rfl) T.n_len PySem.boot_len (pa_cons (pe_fld (pv 0) rfl) pa_nil)) (pe_fld (pv 0) rfl)) rfl)))))))), ?_⟩
  have szl : 20001 ≤ sizeLine := by decide
  repeat walk_at "st"
  refine ⟨by decide, fun sl nsl => ?_⟩
  have psl : p ≠ sl := ne_of_none hp nsl
  repeat walk_at "st"
  refine r_sfldOf (upd_kept hp psl) T.cl_Run T.n_Run_situations (by decide) ?_
  have q1 := put1 (o := .lst []) (fs' := putF "situations" (.ref sl) []) hp nsl
  generalize upd (upd H sl (.lst [])) p (.ins a.cRun dx (putF "situations" (.ref sl) [])) = H1 at q1 ⊢
  obtain ⟨g1, y1, k1⟩ := q1
  repeat walk_at "st"
  refine ⟨by decide, fun wl nwl => ?_⟩
  have pwl : p ≠ wl := ne_of_none g1 nwl
  repeat walk_at "st"
  refine r_sfldOf (upd_kept g1 pwl) T.cl_Run T.n_Run_words (Nat.lt_of_le_of_lt (putF_len (n := 0) (Nat.le_refl _)) (by decide)) ?_
  have q2 := put1 (o := .lst []) (fs' := putF "words" (.ref wl) (putF "situations" (.ref sl) [])) g1 nwl
  generalize upd (upd H1 wl (.lst [])) p (.ins a.cRun dx (putF "words" (.ref wl) (putF "situations" (.ref sl) []))) = H2 at q2 ⊢
  obtain ⟨g2, y2, k2⟩ := q2
  have eF : putF "words" (.ref wl) (putF "situations" (.ref sl) []) = [(("situations" : Str), V.ref sl), (("words" : Str), V.ref wl)] := by
    simp only [putF, if_neg (show ¬ (("situations" : Str) = "words") by decide +kernel)]
  rw [eF] at g2
  have y1' := k2 _ _ y1 psl.symm
  repeat walk_at "st"
  refine r_nnew fun td H3 ntd hnd k3 => ?_
  repeat walk_at "st"
  have ptd : p ≠ td := ne_of_none g2 ntd
  have std : sl ≠ td := ne_of_none y1' ntd
  have wtd : wl ≠ td := ne_of_none y2 ntd
  have swl : sl ≠ wl := ne_of_none y1 nwl
  -- the heap that stays
  have nsl0 : H sl = none := nsl
  have nwl0 : H wl = none := k1.none pwl.symm nwl
  have ntd0 : H td = none := k1.none ptd.symm (k2.none ptd.symm ntd)
  have sG : Same (Less p H) H3 := fun b o e => by
    have nb : b ≠ p := fun z => by rw [z, Less_none] at e; cases e
    have eb := Less_same _ _ e
    have nt : b ≠ td := fun z => by rw [z, ntd0] at eb; cases eb
    rw [k3 b nt]
    exact k2 _ _ (k1 _ _ eb nb) nb
  obtain ⟨dp, hpl⟩ := hA.ob
  obtain ⟨qs0, hr1, hr2⟩ := hA.rb
  obtain ⟨kvs0, hkv, hkvs⟩ := hA.rl
  have hAG : PlanAt a (Less p H) A pd := plan_less hA hp
  have nG : ∀ x, H x = none → Less p H x = none := fun x e => by
    unfold Less
    by_cases z : x = p
    · rw [if_pos z]
    · rw [if_neg z]; exact e
  refine ⟨A, pd, rfl, hAG.mono sG, hF.S, fun H4 B s4 hB => ?_⟩
  repeat walk_at "st"
  have g3 : H4 p = some (.ins a.cRun dx [("situations", .ref sl), ("words", .ref wl)]) := s4 _ _ ((k3 _ ptd).trans g2)
  have y3 : H4 sl = some (.lst []) := s4 _ _ ((k3 _ std).trans y1')
  have y4 : H4 wl = some (.lst []) := s4 _ _ ((k3 _ wtd).trans y2)
  have hnd4 : NDAt P w H4 td [] := by
    have h0 : NDAt P w H3 td [] := hnd
    obtain ⟨-, xs, e1, -⟩ := id h0
    exact h0.mv (by rw [s4 _ _ e1, e1]) fun _ _ e => s4 _ _ e
  obtain ⟨-, xs4, etd, -⟩ := id hnd4
  have hB4 : SitAt (Cut [p, sl, wl, td] H4) B (seqM pd 0) := hB.cut fun x hx ys e => by
    simp only [List.mem_cons, List.not_mem_nil, or_false] at hx
    rcases hx with h | h | h | h
    · rw [h, g3] at e; cases e
    · rw [h, y3] at e; cases e
    · rw [h, y4] at e; cases e
    · rw [h, etd] at e; cases e
  have start : Sofar P w a pd (Less p H) H4 p dx sl wl td B 0 := ⟨⟨Cut [p, sl, wl, td] H4, [], [], Cut_same, Cut_from (sG.trans s4) (fun x hx => by
      simp only [List.mem_cons, List.not_mem_nil, or_false] at hx
      rcases hx with h | h | h | h
      · rw [h]; exact Less_none
      · rw [h]; exact nG _ nsl0
      · rw [h]; exact nG _ nwl0
      · rw [h]; exact nG _ ntd0), Cut_none (by simp), Cut_none (by simp), Cut_none (by simp), Cut_none (by simp), y3, rfl, fun i b e => by simp at e, y4, rfl, fun i q e => by simp at e, hB4⟩, g3, hnd4, fun i j _ h => absurd h (Nat.not_lt_zero _), Nat.zero_le _⟩
  clear hnd4 etd hB4 g3 y3 y4 hB hnd
  refine r_while (fun m σ H5 => ∃ n B x y, n + m = 20001 ∧ Sofar P w a pd (Less p H) H5 p dx sl wl td B n ∧ σ = [some (.ref p), some (.ref A.p), some (.ref td), some (.ref B.q), x, y]) (m0 := 20001) ⟨0, B, _, _, rfl, start, rfl⟩ ?_
  rintro m σ H5 ⟨n, B5, x, y, hm, So, rfl⟩
  obtain ⟨⟨Fz, bs, ws, sF, sGF, f1, f2, f3, f4, hsl, hbl, hbs, hwl, hwn, hws, hBz⟩, hp5, hnd5, hinj, hn⟩ := So
  have hkey : NK H5 (sitK (seqM pd n)) (.ref B5.q) := (hBz.same sF).nk
  repeat walk_at "st"
  refine r_nin ?_
  repeat walk_at "st"
  refine ⟨td, _, rfl, ⟨tickV pd n, sitK (seqM pd n), B5.q, hnd5, rfl, hkey, sitK_depth _, rfl⟩, ?_⟩
  refine ⟨_, rfl, ?_⟩
  rcases tick_val (pd := pd) (n := n) (seqM pd n) with ⟨hv, hno⟩ | ⟨i0, hi0, he0, hv⟩
  · rw [hv]
    refine iteT ?_
    refine ⟨fun σ' H' => ∃ B x y, Sofar P w a pd (Less p H) H' p dx sl wl td B (n + 1) ∧ σ' = [some (.ref p), some (.ref A.p), some (.ref td), some (.ref B.q), x, y], fun σ' H' ⟨B, x, y, h1, h2⟩ => ⟨m - 1, ?_, n + 1, B, x, y, ?_, h1, h2⟩, ?_⟩
    · have := h1.n; omega
    · have := h1.n; omega
    have hlt : n < 20000 := by
      rcases Nat.lt_or_ge n 20000 with h | h
      · exact h
      · obtain ⟨i, j, e1, e2, e3⟩ := hE
        rcases Nat.lt_or_ge j n with h4 | h4
        · exact absurd e3 (hinj i j e1 h4)
        · have : j = n := by omega
          rw [this] at e3
          exact absurd e3 (hno i (by omega))
    repeat walk_at "st"
    refine r_fldOf hp5 T.cl_Run T.n_Run_situations rfl ?_
    refine r_lenL (.inl (SqL.of hsl)) ?_
    repeat walk_at "st"
    rw [List.length_map, hbl, dec_int]
    refine ite_b (p := (n : Int) = 20000) rfl (fun h => by omega) fun _ => ?_
    repeat walk_at "st"
    refine r_nput ?_
    repeat walk_at "st"
    refine ⟨td, tickV pd n, sitK (seqM pd n), B5.q, rfl, hnd5, rfl, hkey, sitK_depth _, ?_, fun H6 hnd6 k6 => ?_⟩
    · unfold tickV
      rw [List.length_map, List.length_range]
      omega
    rw [tickV_put hv] at hnd6
    have sF6 : Same Fz H6 := Same.but sF f4 k6
    have hp6 : H6 p = some (.ins a.cRun dx [("situations", .ref sl), ("words", .ref wl)]) := (k6 _ ptd).trans hp5
    have hsl6 := (k6 _ std).trans hsl
    have hwl6 := (k6 _ wtd).trans hwl
    clear hnd5 hp5 hsl hwl hkey sF k6
    repeat walk_at "st"
    refine r_fldOf hp6 T.cl_Run T.n_Run_situations rfl ?_
    refine r_tyL (SqL.of hsl6) ?_
    repeat walk_at "st"
    refine r_app hsl6 (by rw [List.length_map]; omega) ?_
    have sF7 : Same Fz (upd H6 sl (.lst ((bs.map fun (b : SA) => V.ref b.q) ++ [.ref B5.q]))) := Same.mut sF6 f2
    have hp7 : (upd H6 sl (.lst ((bs.map fun (b : SA) => V.ref b.q) ++ [.ref B5.q]))) p = some (.ins a.cRun dx [("situations", .ref sl), ("words", .ref wl)]) := upd_kept hp6 psl
    have hsl7 : (upd H6 sl (.lst ((bs.map fun (b : SA) => V.ref b.q) ++ [.ref B5.q]))) sl = some (.lst ((bs ++ [B5]).map fun (b : SA) => V.ref b.q)) := by rw [upd_same, List.map_append]; rfl
    have hwl7 : (upd H6 sl (.lst ((bs.map fun (b : SA) => V.ref b.q) ++ [.ref B5.q]))) wl = some (.lst (ws.map V.ref)) := upd_kept hwl6 swl.symm
    have hnd7 : NDAt P w (upd H6 sl (.lst ((bs.map fun (b : SA) => V.ref b.q) ++ [.ref B5.q]))) td (tickV pd (n + 1)) := hnd6.mv (upd_ne std.symm) fun q xs e => upd_kept e (ne_of e hsl6 (by intro z; cases z))
    generalize upd H6 sl (.lst ((bs.map fun (b : SA) => V.ref b.q) ++ [.ref B5.q])) = H7 at sF7 hp7 hsl7 hwl7 hnd7 ⊢
    clear hnd6 hp6 hsl6 hwl6 sF6
    repeat walk_at "st"
    have so := (seq_ok hF n).1
    refine ⟨A, pd, B5, seqM pd n, rfl, hAG.mono (sGF.trans sF7), hF.S, hBz.same sF7, so, fun H8 q wq B8 s8 nq hq nwq hwq hB8 => ?_⟩
    refine r_gTup (xs := [.ref wq, .ref B8.q]) (SqT.of hq) rfl ?_
    repeat walk_at "st"
    have hp8 := s8 _ _ hp7
    have hwl8 := s8 _ _ hwl7
    have hsl8 := s8 _ _ hsl7
    obtain ⟨-, xs8, etd8, -⟩ := id hnd7
    have etd9 := s8 _ _ etd8
    have hnd8 : NDAt P w H8 td (tickV pd (n + 1)) := hnd7.mv (by rw [etd9, etd8]) fun _ _ e => s8 _ _ e
    refine r_fldOf hp8 T.cl_Run T.n_Run_words rfl ?_
    refine r_tyL (SqL.of hwl8) ?_
    repeat walk_at "st"
    refine r_app hwl8 (by rw [List.length_map]; omega) ?_
    have nw : wq ∉ [p, sl, wl, td] := fun hx => by
      simp only [List.mem_cons, List.not_mem_nil, or_false] at hx
      rcases hx with h | h | h | h
      · rw [h, hp7] at nwq; cases nwq
      · rw [h, hsl7] at nwq; cases nwq
      · rw [h, hwl7] at nwq; cases nwq
      · rw [h, etd8] at nwq; cases nwq
    have hcut : ∀ x ∈ [p, sl, wl, td], Fz x = none := fun x hx => by
      simp only [List.mem_cons, List.not_mem_nil, or_false] at hx
      rcases hx with h | h | h | h <;> rw [h] <;> assumption
    have sFC : Same Fz (Cut [p, sl, wl, td] H8) := Cut_from (sF7.trans s8) hcut
    have hBC : SitAt (Cut [p, sl, wl, td] H8) B8 (seqM pd (n + 1)) := hB8.cut fun x hx ys e => by
      simp only [List.mem_cons, List.not_mem_nil, or_false] at hx
      rcases hx with h | h | h | h
      · rw [h, hp8] at e; cases e
      · rw [h, hsl8] at e; cases e
      · rw [h, hwl8] at e; cases e
      · rw [h, etd9] at e; cases e
    refine ⟨B8, _, _, ⟨⟨Cut [p, sl, wl, td] H8, bs ++ [B5], ws ++ [wq], Same.mut Cut_same (Cut_none (by simp)), sGF.trans sFC, Cut_none (by simp), Cut_none (by simp), Cut_none (by simp), Cut_none (by simp), upd_kept hsl8 swl, by rw [List.length_append, hbl]; rfl, fun i b e => ?_, by rw [upd_same, List.map_append]; rfl, by rw [List.length_append, hwn]; rfl, fun i q e => ?_, hBC⟩, upd_kept hp8 pwl, hnd8.mv (upd_ne wtd.symm) fun q xs e => upd_kept e (ne_of e hwl8 (by intro z; cases z)), fun i j h1 h2 => ?_, hlt⟩, rfl⟩
    · rcases Nat.lt_or_ge i n with h | h
      · rw [List.getElem?_append_left (by omega)] at e
        exact (hbs i b e).same sFC
      · rw [List.getElem?_append_right (by omega), hbl] at e
        obtain ⟨h1, h2⟩ := List.getElem?_eq_some_iff.mp e
        have hi : i = n := by simp at h1; omega
        subst hi
        simp at h2
        subst h2
        exact hBz.same sFC
    · rcases Nat.lt_or_ge i n with h | h
      · rw [List.getElem?_append_left (by omega)] at e
        exact sFC _ _ (hws i q e)
      · rw [List.getElem?_append_right (by omega), hwn] at e
        obtain ⟨h1, h2⟩ := List.getElem?_eq_some_iff.mp e
        have hi : i = n := by simp at h1; omega
        subst hi
        simp at h2
        subst h2
        exact Cut_at hwq nw
    · rcases Nat.lt_or_ge j n with h | h
      · exact hinj i j h1 h
      · have : j = n := by omega
        subst this
        exact hno i h1
  · rw [hv]
    refine iteF ?_
    have cy : Cyc pd i0 n := ⟨hi0, he0.symm, hinj⟩
    repeat walk_at "st"
    refine r_nget ?_
    repeat walk_at "st"
    refine ⟨td, _, rfl, ⟨tickV pd n, sitK (seqM pd n), B5.q, hnd5, rfl, hkey, sitK_depth _, hv.symm⟩, ?_⟩
    repeat walk_at "st"
    refine r_sfldOf hp5 T.cl_Run T.n_Run_start (show 2 < 1000 by decide) ?_
    have e1 : putF "start" (.int (i0 : Int)) [(("situations" : Str), V.ref sl), ("words", .ref wl)] = [(("situations" : Str), V.ref sl), ("words", .ref wl), ("start", .int (i0 : Int))] := by
      simp only [putF, if_neg (show ¬ (("situations" : Str) = "start") by decide +kernel), if_neg (show ¬ (("words" : Str) = "start") by decide +kernel)]
    rw [e1]
    have hsl6 : (upd H5 p (.ins a.cRun dx [("situations", V.ref sl), ("words", .ref wl), ("start", .int (i0 : Int))])) sl = some (.lst (bs.map fun (b : SA) => V.ref b.q)) := upd_kept hsl psl.symm
    have hwl6 : (upd H5 p (.ins a.cRun dx [("situations", V.ref sl), ("words", .ref wl), ("start", .int (i0 : Int))])) wl = some (.lst (ws.map V.ref)) := upd_kept hwl pwl.symm
    have sF6 : Same Fz (upd H5 p (.ins a.cRun dx [("situations", V.ref sl), ("words", .ref wl), ("start", .int (i0 : Int))])) := Same.mut sF f1
    have hp6 : (upd H5 p (.ins a.cRun dx [("situations", V.ref sl), ("words", .ref wl), ("start", .int (i0 : Int))])) p = some (.ins a.cRun dx [("situations", V.ref sl), ("words", .ref wl), ("start", .int (i0 : Int))]) := upd_same
    generalize upd H5 p (.ins a.cRun dx [("situations", V.ref sl), ("words", .ref wl), ("start", .int (i0 : Int))]) = H6 at hsl6 hwl6 sF6 hp6 ⊢
    repeat walk_at "st"
    refine r_fldOf hp6 T.cl_Run T.n_Run_situations rfl ?_
    refine r_lenL (.inl (SqL.of hsl6)) ?_
    repeat walk_at "st"
    refine r_fldOf hp6 T.cl_Run T.n_Run_start rfl ?_
    repeat walk_at "st"
    rw [List.length_map, hbl]
    refine r_sfldOf hp6 T.cl_Run T.n_Run_length (show 3 < 1000 by decide) ?_
    have e2 : putF "length" (.int ((n : Int) - (i0 : Int))) [(("situations" : Str), V.ref sl), ("words", .ref wl), ("start", .int (i0 : Int))] = [(("situations" : Str), V.ref sl), ("words", .ref wl), ("start", .int (i0 : Int)), ("length", .int ((n : Int) - (i0 : Int)))] := by
      simp only [putF, if_neg (show ¬ (("situations" : Str) = "length") by decide +kernel), if_neg (show ¬ (("words" : Str) = "length") by decide +kernel), if_neg (show ¬ (("start" : Str) = "length") by decide +kernel)]
    rw [e2]
    have sF7 := Same.mut sF6 (o := .ins a.cRun dx [("situations", V.ref sl), ("words", .ref wl), ("start", .int (i0 : Int)), ("length", .int ((n : Int) - (i0 : Int)))]) f1
    repeat walk_at "st"
    refine k _ ⟨p, sl, wl⟩ i0 n rfl ⟨⟨dx, upd_same⟩, ⟨bs, upd_kept hsl6 psl.symm, hbl, fun i b e => (hbs i b e).same sF7⟩, ⟨ws, upd_kept hwl6 pwl.symm, hwn, fun i q e => sF7 _ _ (hws i q e)⟩, cy, hn⟩ (fun b o e nb => sF7 _ _ (sGF _ _ (Less_at e nb))) nsl0 nwl0
end
end Sw

/-! What lies where after a tick. -/
namespace Sw
open PySem L2
def sp_check_tick (K : PySem.W.Frag) (a : Adr) : Sp := fun vs H Q _ => ∃ t lo hi : Int, vs = [.int t, .int lo, .int hi] ∧ lo ≤ t ∧ t ≤ hi ∧ Q .non H
/-- how check_tick's arguments bind: one is written, or all three -/
theorem bd_check_tick {K : PySem.W.Frag} {f : Addr} {fd : FuncData} (F : FunD K "check_tick" "check_tick" (defArgs s_check_tick) (defBody s_check_tick) (defScope s_check_tick) [.int 0, .int 1000000000000000000] [] f fd) :
    (∃ ds, Vals [V.int 0, .int 1000000000000000000] ds ∧ Binds K fd ps_check_tick ds) ∧ Binds K fd ps_check_tick [] := by
  refine ⟨FunD.binds1 (ps := ps_check_tick) F 1 0 (List.cons_ne_nil _ _) rfl fun T kV doc pm an cdv ct us its hu hi => ?_, ?_⟩
  · match us, its, hu, hi with
    | [_], [_, _], _, _ => exact ⟨_, rfl, rfl⟩
  · obtain ⟨ds, h1, h2⟩ := FunD.binds1 (ps := ps_check_tick) F 3 2 (List.cons_ne_nil _ _) rfl fun T kV doc pm an cdv ct us its hu hi => by
      match us, its, hu, hi with
      | [_, _, _], [_, _], _, _ => exact ⟨_, rfl, rfl⟩
    cases (show Vals [] ds from h1)
    exact h2
theorem like_cast {start N t : Nat} (h : start < N) : likeM (start : Int) ((N : Int) - (start : Int)) (t : Int) = ((likeN start (N - start) t : Nat) : Int) := by
  unfold likeM likeN
  by_cases h1 : t < start
  · rw [if_pos h1, if_pos (by omega)]
  · rw [if_neg h1, if_neg (by omega)]
    rw [show ((N : Int) - (start : Int)) = ((N - start : Nat) : Int) by omega, show ((t : Int) - (start : Int)) = ((t - start : Nat) : Int) by omega, Int.natCast_add, Int.natCast_emod]
def sp_situation_after (K : PySem.W.Frag) (a : Adr) : Sp := fun vs H Q _ => ∃ (A : PA) (pd : PlanD) (t : Nat), vs = [.ref A.p, .int (t : Int)] ∧ PlanAt a H A pd ∧ FitP pd ∧ Early pd ∧ t ≤ 1000000000000000000 ∧
  ∀ (H' : Hp) (B : SA), Same H H' → SitAt H' B (seqM pd (t + 1)) → Q (.ref B.q) H'
/-- a text, what it says, and that this comes again early -/
structure Told (z : Str) (pd : PlanD) : Prop where
  g : ∃ ts ss, Good z pd ts ss
  f : FitP pd
  e : Early pd
def sgnsV (pd : PlanD) (n : Nat) : List V := ((seqM pd n).signs.map fun i => pd.signs.getD i Str.empty).map V.str
def sp_signs_on (K : PySem.W.Frag) (a : Adr) : Sp := fun vs H Q _ => ∃ (z : Str) (pd : PlanD) (t : Nat), vs = [.str z, .int (t : Int)] ∧ Told z pd ∧ t ≤ 1000000000000000000 ∧
  ∀ (H' : Hp) (q : Addr), Same H H' → H q = none → H' q = some (.lst (sgnsV pd (t + 1))) → Q (.ref q) H'
def sp_robots_in (K : PySem.W.Frag) (a : Adr) : Sp := fun vs H Q _ => ∃ (z : Str) (pd : PlanD) (t : Nat), vs = [.str z, .int (t : Int)] ∧ Told z pd ∧ t ≤ 1000000000000000000 ∧
  ∀ (H' : Hp) (q : Addr) (ps : List Addr), Same H H' → H q = none → H' q = some (.lst (ps.map V.ref)) → Paired (RtAt pd H') ps (seqM pd (t + 1)).robots → Q (.ref q) H'
def sp_find_cycle (K : PySem.W.Frag) (a : Adr) : Sp := fun vs H Q _ => ∃ (z : Str) (pd : PlanD), vs = [.str z] ∧ Told z pd ∧
  ∀ (H' : Hp) (q : Addr) (start N : Nat), Same H H' → H q = none → Cyc pd start N → N ≤ 20000 → H' q = some (.tup [.int (start : Int), .int ((N : Int) - (start : Int))]) → Q (.ref q) H'

section
variable {P : Program} {w : World} {K : PySem.W.Frag} {mg : Str → Option Value} {base : Heap} {a : Adr}
theorem ok_check_tick {f : Addr} {fd : FuncData} (F : FunD K "check_tick" "check_tick" (defArgs s_check_tick) (defBody s_check_tick) (defScope s_check_tick) [.int 0, .int 1000000000000000000] [] f fd) (T : Txt w K mg a)
    {f_is_integer : Addr} {fd_is_integer : FuncData} (G_is_integer : Cal P w K mg base "is_integer" 1 f_is_integer fd_is_integer ps_is_integer (sp_is_integer K a)) :
    FnOk P w K mg base CX0 2 f fd ps_check_tick (sp_check_tick K a) := by
  refine okD F sc_check_tick (fun vs H Q E h => ?_) (fun cdv A outer s H vs Q E hr h => ?_)
  · obtain ⟨t, lo, hi, rfl, h1, h2, k⟩ := h
    rfl
  obtain ⟨t, lo, hi, rfl, h1, h2, k⟩ := h
  have hu := hu_of hr
  refine ⟨_, 
    (pss_one (ps_if (PW.pt (pw_or (pt_not (pt_val (pe_call G_is_integer.ok (hr.mono (by decide)) rfl G_is_integer.mg' G_is_integer.kp G_is_integer.b .nil pass0 (pa_cons (pv 0) pa_nil)))) (pw_or1 (pt_not (pt_chain op_le op_le (pv 1) (pv 0) (pv 2)))))) 
      (pss_one ps_never) pss_nil)), ?_⟩
  repeat walk_at "st"
  refine r_or2' (fun QB q => ?_) ?_
  · repeat walk_at "st"
    refine ⟨t, rfl, ?_⟩
    repeat walk_at "st"
    exact q
  repeat walk_at "st"
  refine ite_b (p := lo ≤ t) rfl (fun _ => ?_) fun h => absurd h1 h
  repeat walk_at "st"
  rw [decide_eq_true h2]
  refine iteF ?_
  repeat walk_at "st"
  exact k
theorem ok_situation_after {f : Addr} {fd : FuncData} (F : Fun K "situation_after" "situation_after" s_situation_after f fd) (T : Txt w K mg a)
    {f_check_tick : Addr} {fd_check_tick : FuncData} (G_check_tick : Cal P w K mg base "check_tick" 2 f_check_tick fd_check_tick ps_check_tick (sp_check_tick K a))
    {f_Run_init : Addr} {fd_Run_init : FuncData} (M_Run : Mk K a.cRun f_Run_init) (G_Run_init : CalM P w K mg base 4 f_Run_init fd_Run_init ps_Run_init (sp_Run_init K a))
    {f_Run_first_like : Addr} {fd_Run_first_like : FuncData} (ME_Run_first_like : Meth K a.cRun "first_like" f_Run_first_like) (G_Run_first_like : CalM P w K mg base 2 f_Run_first_like fd_Run_first_like ps_Run_first_like (sp_Run_first_like K a))
    {ds_check_tick_1 : List Value} (B_check_tick_1 : Binds K fd_check_tick ps_check_tick ds_check_tick_1) (V_check_tick_1 : Vals [.int 0, .int 1000000000000000000] ds_check_tick_1) :
    FnOk P w K mg base CX0 6 f fd ps_situation_after (sp_situation_after K a) := by
  refine F.ok sc_situation_after (fun vs H Q E h => ?_) (fun cdv A outer s H vs Q E hr h => ?_)
  · obtain ⟨A, pd, t, rfl, hA, hF, hE, ht, k⟩ := h
    rfl
  obtain ⟨A, pd, t, rfl, hA, hF, hE, ht, k⟩ := h
  have hu := hu_of hr
  refine ⟨_, 
    (pss_cons (ps_expr (pe_call G_check_tick.ok (hr.mono (by decide)) rfl G_check_tick.mg' G_check_tick.kp B_check_tick_1 V_check_tick_1 pass0 (pa_cons (pv 1) pa_nil))) 
    (pss_cons (ps_set (i := 2) sc_situation_after.nd rfl (.inl rfl) (pe_make M_Run G_Run_init.ok (hr.mono (by decide)) rfl T.c_Run G_Run_init.b .nil pass0 (pa_cons (pv 0) pa_nil))) 
    (pss_one (ps_ret (pe_ix ix_list (pe_fld (pv 2) rfl) (pe_meth (pv 2) T.cl_Run ME_Run_first_like G_Run_first_like.ok (hr.mono (by decide)) G_Run_first_like.b .nil pass0 (pa_cons (pe_op op_add (pv 1) pe_int) pa_nil)) (fun _ _ => rfl)))))), ?_⟩
  repeat walk_at "st"
  refine r_callD ?_
  repeat walk_at "st"
  refine ⟨(t : Int), 0, 1000000000000000000, rfl, by omega, by omega, ?_⟩
  repeat walk_at "st"
  intro p dx np ndx hdx
  refine ⟨p, dx, A, pd, rfl, upd_same, hA.mono ((Same.new ndx).trans (Same.new (by rw [upd_ne hdx.symm]; exact np))), hF, hE, fun H1 R start N eR hR k1 n1 n2 => ⟨rfl, ?_⟩⟩
  subst eR
  have s1 : Same H H1 := Same.made np ndx k1
  obtain ⟨⟨dx', hi⟩, ⟨bs, hs1, hs2, hs3⟩, hw, hc, hN⟩ := hR
  repeat walk_at "st"
  refine r_fldOf hi T.cl_Run T.n_Run_situations rfl ?_
  repeat walk_at "st"
  refine ⟨_, _, _, rfl, hi, rfl, ?_⟩
  repeat walk_at "st"
  refine ⟨R, _, _, _, rfl, ⟨dx', hi⟩, by have := hc.lt; omega, ?_⟩
  have e1 := like_cast (t := t + 1) hc.lt
  rw [show ((t + 1 : Nat) : Int) = (t : Int) + 1 by omega] at e1
  rw [e1]
  have hlt := like_lt (t := t + 1) hc.lt
  obtain ⟨b, hb⟩ : ∃ b, bs[likeN start (N - start) (t + 1)]? = some b := ⟨_, List.getElem?_eq_getElem (by omega)⟩
  refine r_ixL (SqL.of hs1) (nat_at (x := V.ref b.q) (by rw [List.getElem?_map, hb]; rfl)) ?_
  have hB := hs3 _ _ hb
  rw [← cyc_like hc (t + 1)] at hB
  exact k _ b s1 hB
theorem ok_robots_in {f : Addr} {fd : FuncData} (F : Fun K "robots_in" "robots_in" s_robots_in f fd) (T : Txt w K mg a)
    {f_read_plan : Addr} {fd_read_plan : FuncData} (G_read_plan : Cal P w K mg base "read_plan" 11 f_read_plan fd_read_plan ps_read_plan (sp_read_plan K a))
    {f_situation_after : Addr} {fd_situation_after : FuncData} (G_situation_after : Cal P w K mg base "situation_after" 6 f_situation_after fd_situation_after ps_situation_after (sp_situation_after K a))
    {f_robot_tuples : Addr} {fd_robot_tuples : FuncData} (G_robot_tuples : Cal P w K mg base "robot_tuples" 1 f_robot_tuples fd_robot_tuples ps_robot_tuples (sp_robot_tuples K a)) :
    FnOk P w K mg base CX0 12 f fd ps_robots_in (sp_robots_in K a) := by
  refine F.ok sc_robots_in (fun vs H Q E h => ?_) (fun cdv A outer s H vs Q E hr h => ?_)
  · obtain ⟨z, pd, t, rfl, hz, ht, k⟩ := h
    rfl
  obtain ⟨z, pd, t, rfl, hz, ht, k⟩ := h
  have hu := hu_of hr
  refine ⟨_, 
    (pss_cons (ps_set (i := 2) sc_robots_in.nd rfl (.inl rfl) (pe_call G_read_plan.ok (hr.mono (by decide)) rfl G_read_plan.mg' G_read_plan.kp G_read_plan.b .nil pass0 (pa_cons (pv 0) pa_nil))) 
    (pss_cons (ps_asg (pe_call G_situation_after.ok (hr.mono (by decide)) rfl G_situation_after.mg' G_situation_after.kp G_situation_after.b .nil pass0 (pa_cons (pv 2) (pa_cons (pv 1) pa_nil))) (pg_tup rfl (pgs_cons (pg_name (i := 3) sc_robots_in.nd rfl (.inl rfl)) (pgs_cons (pg_name (i := 4) sc_robots_in.nd rfl (.inl rfl)) pgs_nil)))) 
    (pss_one (ps_ret (pe_call G_robot_tuples.ok (hr.mono (by decide)) rfl G_robot_tuples.mg' G_robot_tuples.kp G_robot_tuples.b .nil pass0 (pa_cons (pv 2) (pa_cons (pv 4) pa_nil))))))), ?_⟩
  obtain ⟨⟨ts, ss, hg⟩, hF, hE⟩ := hz
  repeat walk_at "st"
  refine ⟨z, pd, ts, ss, rfl, hg, fun H1 A hA s1 hf => ?_⟩
  repeat walk_at "st"
  refine ⟨A, pd, t, rfl, hA, hF, hE, ht, fun H2 B s2 hB => ?_⟩
  refine r_gTup (xs := [.ref B.s, .ref B.r]) (SqT.of hB.q) rfl ?_
  repeat walk_at "st"
  have so := (seq_ok hF (t + 1)).1
  obtain ⟨qs, h1, h2⟩ := hB.r
  have h3 := so.k
  exact ⟨A, pd, B.r, _, qs, rfl, hA.mono s2, h1, h2, so.r, by omega, fun H3 q ps s3 nq hq hp => k H3 q ps ((s1.trans s2).trans s3) (none_back (s1.trans s2) nq) hq hp⟩
end
end Sw

/-! The statements' own machine. -/
namespace Sw
open PySem L2
structure StA where
  q : Addr
  fl : Addr
  rb : Addr
def RoL (H : Hp) (q : Addr) (r : RobD) : Prop := H q = some (.tup [.int r.1, .bl (decide (r.2.1 = 1)), .int (r.2.2 : Int)])
structure StL (H : Hp) (S : StA) (d : SitD) : Prop where
  q : H S.q = some (.lst [.ref S.fl, .ref S.rb])
  fl : H S.fl = some (.lst (natsV d.signs))
  rb : ∃ qs, H S.rb = some (.lst (qs.map V.ref)) ∧ Paired (RoL H) qs d.robots
theorem StL.same {H H' : Hp} {S : StA} {d : SitD} (h : StL H S d) (s : Same H H') : StL H' S d := by
  obtain ⟨qs, h1, h2⟩ := h.rb
  exact ⟨s _ _ h.q, s _ _ h.fl, ⟨qs, s _ _ h1, Paired.mapP h2 fun _ _ e => s _ _ e⟩⟩
/-- nothing of it stands yet -/
def StA.new (H : Hp) (S : StA) : Prop := H S.q = none ∧ H S.fl = none ∧ H S.rb = none
def tilesV (d : SitD) : List V := d.robots.map fun r => V.int r.1
def DayAt (H : Hp) (q : Addr) (pd : PlanD) (i : Nat) : Prop := ∃ sw ws S, H q = some (.tup [.ref sw, .ref ws, .ref S.q]) ∧ H sw = some (.lst (tilesV (seqM pd i))) ∧ H ws = some (.lst ((wordsM pd i).map V.str)) ∧ StL H S (seqM pd (i + 1))
theorem DayAt.same {H H' : Hp} {q : Addr} {pd : PlanD} {i : Nat} (h : DayAt H q pd i) (s : Same H H') : DayAt H' q pd i := by
  obtain ⟨sw, ws, S, h1, h2, h3, h4⟩ := h
  exact ⟨sw, ws, S, s _ _ h1, s _ _ h2, s _ _ h3, h4.same s⟩
/-- what is new in F: all but what stood in H and may change -/
def mutO : Option HO → Bool
  | some (.tup _) => false
  | some _ => true
  | none => false
def Newly (H F : Hp) : Hp := fun b => if mutO (H b) = true then none else F b
theorem Newly_sub {H F : Hp} : Same (Newly H F) F := fun b o e => by
  unfold Newly at e
  by_cases h : mutO (H b) = true
  · rw [if_pos h] at e; cases e
  · rw [if_neg h] at e; exact e
theorem Newly_off {H F : Hp} {b : Addr} (h : mutO (H b) = true) : Newly H F b = none := if_pos h
theorem Newly_new {H F : Hp} {b : Addr} {o : HO} (n : H b = none) (e : F b = some o) : Newly H F b = some o := by
  unfold Newly
  rw [n, if_neg (by decide)]
  exact e
theorem Newly_tup {H F : Hp} {b : Addr} {xs : List V} (s : Same H F) (e : F b = some (.tup xs)) : Newly H F b = some (.tup xs) := by
  cases h : H b with
  | none => exact Newly_new h e
  | some o =>
    rw [s b o h] at e
    cases e
    unfold Newly
    rw [h, if_neg (by intro z; cases z)]
    exact s _ _ h
theorem Newly_mono {H F F' : Hp} (s : Same F F') : Same (Newly H F) (Newly H F') := fun b o e => by
  unfold Newly at e ⊢
  by_cases h : mutO (H b) = true
  · rw [if_pos h] at e; cases e
  · rw [if_neg h] at e ⊢; exact s _ _ e
/-- what is new lives on where what may change has changed -/
theorem Newly_less {H F : Hp} {D : Addr} (h : mutO (H D) = true) : Same (Newly H F) (Less D F) := fun b o e => by
  refine Less_at (Newly_sub _ _ e) fun z => ?_
  rw [z, Newly_off h] at e
  cases e
def sp_l_empty (K : PySem.W.Frag) (a : Adr) : Sp := fun vs H Q _ => ∃ (A : LA) (p : LP), vs = [.ref A.q] ∧ LPAt H A p ∧ GoodLP 16 p ∧
  ∀ (H' : Hp) (S : StA), Same H H' → StA.new H S → StL H' S (seqM (pdL p) 0) → Q (.ref S.q) H'
def sp_l_tick (K : PySem.W.Frag) (a : Adr) : Sp := fun vs H Q _ => ∃ (A : LA) (p : LP) (S : StA) (d : SitD), vs = [.ref A.q, .ref S.q] ∧ LPAt H A p ∧ GoodLP 16 p ∧ StL H S d ∧ SitOK (pdL p) d ∧
  ∀ (H' : Hp) (q sw ws : Addr) (S' : StA), Same H H' → (H q = none ∧ H sw = none ∧ H ws = none ∧ StA.new H S') → H' q = some (.tup [.ref sw, .ref ws, .ref S'.q]) → H' sw = some (.lst (tilesV d)) → H' ws = some (.lst ((performM (pdL p) d).1.map V.str)) →
    StL H' S' (performM (pdL p) d).2 → Q (.ref q) H'
def sp_l_days (K : PySem.W.Frag) (a : Adr) : Sp := fun vs H Q _ => ∃ (A : LA) (p : LP) (n : Nat), vs = [.ref A.q, .int (n : Int)] ∧ LPAt H A p ∧ GoodLP 16 p ∧ n ≤ 9000 ∧
  ∀ (H' : Hp) (l : Addr) (qs : List Addr), Same H H' → H l = none → H' l = some (.lst (qs.map V.ref)) → qs.length = n → (∀ i q, qs[i]? = some q → DayAt (Newly H H') q (pdL p) i) → Q (.ref l) H'
def sp_l_names (K : PySem.W.Frag) (a : Adr) : Sp := fun vs H Q _ => ∃ (A : LA) (p : LP) (S : StA) (d : SitD), vs = [.ref A.q, .ref S.q] ∧ LPAt H A p ∧ GoodLP 16 p ∧ StL H S d ∧ SitOK (pdL p) d ∧
  ∀ (H' : Hp) (q : Addr), Same H H' → H q = none → H' q = some (.lst ((d.signs.map fun i => p.sg.getD i Str.empty).map V.str)) → Q (.ref q) H'
def sp_l_robots (K : PySem.W.Frag) (a : Adr) : Sp := fun vs H Q _ => ∃ (A : LA) (p : LP) (S : StA) (d : SitD), vs = [.ref A.q, .ref S.q] ∧ LPAt H A p ∧ GoodLP 16 p ∧ StL H S d ∧ SitOK (pdL p) d ∧
  ∀ (H' : Hp) (q : Addr) (ps : List Addr), Same H H' → H q = none → H' q = some (.lst (ps.map V.ref)) → Paired (RtAt (pdL p) H') ps d.robots → Q (.ref q) H'
theorem ruL_get {H : Hp} {kvs : List (List Key × V)} {l : List ((Nat × Nat) × Nat × Nat × Nat)} (hp : Paired (RuL H) kvs l) (i j : Nat) :
    (ruleAt l (i, j) = none ∧ valV kvs [Sum.inl (i : Int), Sum.inl (j : Int)] = none) ∨ ∃ v q, ruleAt l (i, j) = some v ∧ valV kvs [Sum.inl (i : Int), Sum.inl (j : Int)] = some (.ref q) ∧ H q = some (.tup [.int (v.1 : Int), .str (MOVESs.getD v.2.1 Str.empty), .int (v.2.2 : Int)]) := by
  induction hp with
  | nil => exact .inl ⟨rfl, rfl⟩
  | @cons kv r kvs l h t ih =>
    obtain ⟨h1, q, h2, h3⟩ := h
    unfold ruleAt
    by_cases e : r.1 = (i, j)
    · rw [if_pos e, valV_pos (by rw [h1, e])]
      exact .inr ⟨_, q, rfl, by rw [h2], h3⟩
    · have e' : ¬ kv.1 = [Sum.inl (i : Int), Sum.inl (j : Int)] := fun z => e (by
        rw [h1] at z
        injection z with z1 z2
        injection z2 with z2 _
        have a1 := Sum.inl.inj z1
        have a2 := Sum.inl.inj z2
        exact Prod.ext (by dsimp only; omega) (by dsimp only; omega))
      rw [if_neg e, valV_neg e']
      exact ih
theorem set_nats {l : List Nat} {i x : Nat} : (natsV l).set i (.int (x : Int)) = natsV (l.set i x) := by
  unfold natsV
  rw [List.map_set]
theorem setI_at {n i : Nat} (h : i < n) : ixN n (i : Int) = some i := by
  unfold ixN
  rw [if_pos (by omega), if_pos (by omega), Int.toNat_natCast]
/-- a word of a move, and what is asked of it -/
theorem mv_words : ∀ d : Nat, d < 3 → (decide ((MOVESs.getD d Str.empty) = ("back" : Str)) = decide (d = 1)) ∧ decide ((MOVESs.getD d Str.empty) ∈ [("on" : Str), "back"]) = !decide (d = 2) ∧ (MOVESs.getD d Str.empty).length ≤ 8
  | 0, _ => by decide +kernel
  | 1, _ => by decide +kernel
  | 2, _ => by decide +kernel
  | n + 3, h => by omega
section
variable {P : Program} {w : World} {K : PySem.W.Frag} {mg : Str → Option Value} {base : Heap} {a : Adr}
end
end Sw

/-! A tick of the statements' own machine. -/
namespace Sw
open PySem L2
theorem r_join {M : St → Hp → Prop} {t : TS} {D : Ends} {σ : St} {H : Hp} (h1 : ∀ nx : St → Hp → Prop, (∀ σ' H', M σ' H' → nx σ' H') → t { D with nx := nx } σ H) (h2 : ∀ σ' H', M σ' H' → D.nx σ' H') : t D σ H := h1 D.nx h2
theorem not_side {s : Nat} (h : s < 2) : (!decide (s = 1)) = decide (1 - s = 1) := by
  rcases (show s = 0 ∨ s = 1 by omega) with h | h <;> subst h <;> rfl
theorem r_and3 {t1 t2 : TT} {σ : St} {H : Hp} {QB : Bool → Hp → Prop} (b1 b2 : Bool) (h1 : ∀ QB : Bool → Hp → Prop, (∀ H1, Same H H1 → QB b1 H1) → t1 σ H QB) (h2 : b1 = true → ∀ H1, Same H H1 → ∀ QB : Bool → Hp → Prop, QB b2 H1 → t2 σ H1 QB)
    (h : ∀ H1, Same H H1 → QB (b1 && b2) H1) : tAnd t1 t2 σ H QB := h1 _ fun H1 s => by
  cases b1 with
  | true => exact iteT (h2 rfl H1 s _ (h H1 s))
  | false => exact iteF (h H1 s)
/-- what is left of a robot's turn when its word is known -/
def turnL (size tile : Int) (side : Nat) (b1 b2 : Bool) : Int × Nat :=
  let g := if b1 = true then 1 - side else side
  let x := tile + (if g = 1 then 1 else -1)
  if b2 = true ∧ 0 ≤ x ∧ x < size then (x, g) else if b2 = true then (tile, 1 - g) else (tile, g)
theorem turn_moved {size tile : Int} {side d : Nat} (hs : side < 2) (hd : d < 3) : turnL size tile side (decide (d = 1)) (!decide (d = 2)) = movedM size tile side d := by
  rw [moved_law hs d hd]
  unfold turnL
  simp only [decide_eq_true_eq, Bool.not_eq_true', decide_eq_false_iff_not]
theorem turn_rest {size tile : Int} {side : Nat} : turnL size tile side false false = (tile, side) := by
  unfold turnL
  simp
section
variable {P : Program} {w : World} {K : PySem.W.Frag} {mg : Str → Option Value} {base : Heap} {a : Adr}
end
end Sw

/-! Days, names and robots of the statements' own machine; a short plan. -/
namespace Sw
open PySem L2
theorem at_last {l : List V} {x : V} : atI (l ++ [x]) (-1) = some x := by
  unfold atI
  have e : ixN (l ++ [x]).length (-1) = some l.length := by
    unfold ixN
    rw [if_neg (by omega), if_pos (by rw [List.length_append]; simp; omega), List.length_append]
    congr 1
    simp
    omega
  rw [e]
  simp
/-- a short plan: one robot, or two with few signs and moods -/
def ShortP (p : LP) : Prop := p.fl.length ≤ 4 ∧ (p.rb.length = 1 ∨ (p.rb.length = 2 ∧ p.sg.length ≤ 2 ∧ p.md.length ≤ 2))
theorem short_early {p : LP} {pd : PlanD} {m : Nat} (G : GoodLP m p) (hm : m ≤ 16) (h : ShortP p) (hl : Like p pd) : Early pd := by
  have G16 := good16 G hm
  refine early_of (like_fit G16 hl) ?_
  rw [hl.sg, hl.md, hl.sz, hl.rb, List.length_map, Int.toNat_natCast]
  obtain ⟨h4, h⟩ := h
  have s := G.s1
  have d := G.m1
  have mono : ∀ {a b k n : Nat}, a ≤ b → 1 ≤ b → n ≤ k → a ^ n ≤ b ^ k := fun h1 h2 h3 => Nat.le_trans (Nat.pow_le_pow_left h1 _) (Nat.pow_le_pow_right h2 h3)
  rcases h with h1 | ⟨h1, h2, h3⟩
  · rw [h1, Nat.pow_one]
    have e1 : p.sg.length ^ p.fl.length ≤ 4 ^ 4 := mono s.2 (by decide) h4
    have e2 : p.md.length * (2 * p.fl.length) ≤ 3 * (2 * 4) := Nat.mul_le_mul d.2 (by omega)
    exact Nat.le_trans (Nat.mul_le_mul e1 e2) (by decide)
  · rw [h1]
    have e1 : p.sg.length ^ p.fl.length ≤ 2 ^ 4 := mono h2 (by decide) h4
    have e2 : p.md.length * (2 * p.fl.length) ≤ 2 * (2 * 4) := Nat.mul_le_mul h3 (by omega)
    exact Nat.le_trans (Nat.mul_le_mul e1 (Nat.pow_le_pow_left e2 2)) (by decide)
def sp_l_short (K : PySem.W.Frag) (a : Adr) : Sp := fun vs H Q _ => ∃ (D : Addr) (most : Nat), vs = [.ref D, .int (most : Int)] ∧ DAt H D ∧ 1 ≤ most ∧ most ≤ 16 ∧
  ∀ (H' : Hp) (A : LA) (p : LP), GoodLP (min most 4) p → ShortP p → LPAt H' A p → Keep D H H' → DAt H' D → Q (.ref A.q) H'
section
variable {P : Program} {w : World} {K : PySem.W.Frag} {mg : Str → Option Value} {base : Heap} {a : Adr}
end
end Sw

/-! A short plan. -/
namespace Sw
open PySem L2
theorem r_slA {K : PySem.W.Frag} {q : Addr} {xs : List V} {n : Nat} {H : Hp} {Q : VK} (e : H q = some (.tup xs)) (h : ∀ p H', Same H H' → H' p = some (.tup (xs.take n)) → Q (.ref p) H') : rSlA K (.ref q) none (some (n : Int)) H Q := by
  refine ⟨q, xs, rfl, SqT.of e, fun hw => ?_, fun hw p np => ?_⟩
  · refine h q H (fun _ _ z => z) ?_
    have hl : xs.length ≤ n := by
      have h2 := hw.2
      rw [HT.sIx_nat] at h2
      omega
    rw [List.take_of_length_le hl]
    exact e
  · rw [cutV_to]
    exact h p _ (Same.new np) upd_same
theorem da_ne {H : Hp} {D x : Addr} (d : DAt H D) (n : H x = none) : x ≠ D := fun z => by obtain ⟨_, _, _, _, e⟩ := d; rw [z, e] at n; cases n
section
variable {P : Program} {w : World} {K : PySem.W.Frag} {mg : Str → Option Value} {base : Heap} {a : Adr}
theorem ok_l_short {f : Addr} {fd : FuncData} (F : Fun K "_law_short" "_law_short" s_l_short f fd) (T : Txt w K mg a)
    {f_l_plan : Addr} {fd_l_plan : FuncData} (G_l_plan : Cal P w K mg base "_law_plan" 3 f_l_plan fd_l_plan ps_l_plan (sp_l_plan K a)) :
    FnOk P w K mg base CX0 4 f fd ps_l_short (sp_l_short K a) := by
  refine F.ok sc_l_short (fun vs H Q E h => ?_) (fun cdv A outer s H vs Q E hr h => ?_)
  · obtain ⟨D, most, rfl, d0, hm1, hm2, k⟩ := h
    rfl
  obtain ⟨D, most, rfl, d0, hm1, hm2, k⟩ := h
  have hu := hu_of hr
  refine ⟨_, 
    (pss_cons (ps_asg (pe_call G_l_plan.ok (hr.mono (by decide)) rfl G_l_plan.mg' G_l_plan.kp G_l_plan.b .nil pass0 (pa_cons (pv 0) (pa_cons (pe_callB (cr_min rfl) (by rfl) T.n_min (by decide +kernel) (pa_cons (pe_lst (pa_cons (pv 1) (pa_cons pe_int pa_nil))) pa_nil)) pa_nil))) (pg_tup rfl (pgs_cons (pg_name (i := 2) sc_l_short.nd rfl (.inr rfl)) (pgs_cons (pg_name (i := 3) sc_l_short.nd rfl (.inl rfl)) (pgs_cons (pg_name (i := 4) sc_l_short.nd rfl (.inl rfl)) (pgs_cons (pg_name (i := 5) sc_l_short.nd rfl (.inl rfl)) (pgs_cons (pg_name (i := 6) sc_l_short.nd rfl (.inl rfl)) pgs_nil))))))) 
    (pss_cons (ps_if (pt_cmpR op_eq (pe_callB call_len_seq (by rfl) T.n_len PySem.boot_len (pa_cons (pv 5) pa_nil)) pe_int (nomark _)) 
      (pss_one (ps_ret (pe_tup (pa_cons (pv 2) (pa_cons (pv 3) (pa_cons (pv 4) (pa_cons (pv 5) (pa_cons (pv 6) pa_nil)))))))) pss_nil) 
    (pss_cons (ps_asg (pe_tup (pa_cons (pe_slice sl_tupA (pv 2) po_none (po_some pe_int)) (pa_cons (pe_slice sl_tupA (pv 3) po_none (po_some pe_int)) (pa_cons pe_dnewT pa_nil)))) (pg_tup rfl (pgs_cons (pg_name (i := 2) sc_l_short.nd rfl (.inr rfl)) (pgs_cons (pg_name (i := 3) sc_l_short.nd rfl (.inl rfl)) (pgs_cons (pg_name (i := 7) sc_l_short.nd rfl (.inl rfl)) pgs_nil))))) 
    (pss_cons (ps_for PassesOwn.never rfl (pi_range1 (by rfl) T.n_range (pa_cons (pe_callB call_len_seq (by rfl) T.n_len PySem.boot_len (pa_cons (pv 3) pa_nil)) pa_nil)) (pg_name (i := 8) sc_l_short.nd rfl (.inl rfl)) 
      (pss_one (ps_for PassesOwn.never rfl (pi_range1 (by rfl) T.n_range (pa_cons (pe_callB call_len_seq (by rfl) T.n_len PySem.boot_len (pa_cons (pv 2) pa_nil)) pa_nil)) (pg_name (i := 9) sc_l_short.nd rfl (.inl rfl)) 
        (pss_one (ps_if (pt_cmp (pc_din hu (pe_tup (pa_cons (pv 8) (pa_cons (pv 9) pa_nil))) (pv 6))) 
          (pss_cons (ps_asg (pe_dget hu (pv 6) (pe_tup (pa_cons (pv 8) (pa_cons (pv 9) pa_nil))) (fun _ _ => rfl)) (pg_tup rfl (pgs_cons (pg_name (i := 10) sc_l_short.nd rfl (.inl rfl)) (pgs_cons (pg_name (i := 11) sc_l_short.nd rfl (.inl rfl)) (pgs_cons (pg_name (i := 12) sc_l_short.nd rfl (.inl rfl)) pgs_nil))))) 
          (pss_one (ps_dput hu (pv 7) (pe_tup (pa_cons (pv 8) (pa_cons (pv 9) pa_nil))) (pe_tup (pa_cons (pe_op op_mod (pv 10) (pe_callB call_len_seq (by rfl) T.n_len PySem.boot_len (pa_cons (pv 2) pa_nil))) (pa_cons (pv 11) (pa_cons (pe_op op_mod (pv 12) (pe_callB call_len_seq (by rfl) T.n_len PySem.boot_len (pa_cons (pv 3) pa_nil))) pa_nil)))) rfl))) pss_nil))))) 
    (pss_one (ps_ret (pe_tup (pa_cons (pv 2) (pa_cons (pv 3) (pa_cons (pe_callTy call_tuple_of (by rfl) T.n_tuple (by decide +kernel) (pa_cons (pe_lc (own := [("_law_sign", 9)]) (tt := tYes) rfl sc_l_short.nd (pi_tup (pv 4)) (blkOk_by (own := [("_law_sign", 9)]) (N := nm_l_short) (sc := defScope s_l_short) (by decide +kernel)) (fun _ _ _ _ _ => pg_name (i := 9) sc_l_short.nd rfl (.inl rfl)) (fun _ _ _ _ _ => pts_nil) (fun _ _ _ _ _ => (pe_op op_mod (pv 9) (pe_callB (show CallR _ _ (rLenQ K) from call_len_seq) (by rfl) T.n_len PySem.boot_len (pa_cons (pv 2) pa_nil))))) pa_nil)) (pa_cons (pe_slice sl_tupA (pv 5) po_none (po_some pe_int)) (pa_cons (pv 7) pa_nil)))))))))))), ?_⟩
  have szl : 10000 ≤ sizeLine := by decide
  repeat walk_at "st"
  refine ⟨by show 2 ≤ sizeLine; omega, fun x1 n1 => ?_⟩
  refine ⟨x1, [(most : Int), 4], rfl, SqL.of upd_same, (show 0 < 2 by decide), fun m hmm hml => ?_⟩
  have em : m = ((min most 4 : Nat) : Int) := by
    have h1 := hml (most : Int) (by simp)
    have h2 := hml 4 (by simp)
    simp only [List.mem_cons, List.not_mem_nil, or_false] at hmm
    omega
  rw [em]
  have s1 : Same H (upd H x1 (.lst [.int (most : Int), .int 4])) := Same.new n1
  repeat walk_at "st"
  change sp_l_plan K a _ (upd H x1 (.lst [.int (most : Int), .int 4])) _ _
  refine ⟨D, min most 4, rfl, d0.same s1, by omega, by omega, fun H1 A p G hA kp1 d1 => ?_⟩
  have sA : Same (Less D H) H1 := kp_from (Less_same.trans s1) Less_none kp1
  have kHH : ∀ {H' : Hp}, Same (Less D H) H' → Keep D H H' := fun s b o e n => s _ _ (Less_at e n)
  obtain ⟨qs, hr1, hr2⟩ := hA.rb
  obtain ⟨kvs0, hkv, hkvs⟩ := hA.ru
  have hqn := PySem.Paired.length hr2
  have g1 := G.s1
  have g2 := G.m1
  have g3 := G.r1
  have g4' := G.f1
  refine r_gTup (xs := [.ref A.sg, .ref A.md, .ref A.fl, .ref A.rb, .ref A.ru]) (SqT.of hA.q) rfl ?_
  repeat walk_at "st"
  refine r_lenL (.inr (SqT.of hr1)) ?_
  repeat walk_at "st"
  rw [List.length_map, dec_int]
  refine ite_b (p := (qs.length : Int) = 1) rfl (fun h1 => ?_) fun h1 => ?_
  · repeat walk_at "st"
    refine ⟨by show 5 ≤ sizeLine; omega, fun q nq => ?_⟩
    have t := Same.new (o := .tup [.ref A.sg, .ref A.md, .ref A.fl, .ref A.rb, .ref A.ru]) nq
    exact k _ ⟨q, A.sg, A.md, A.fl, A.rb, A.ru⟩ p G ⟨by omega, .inl (by omega)⟩ ⟨upd_same, t _ _ hA.sg, t _ _ hA.md, t _ _ hA.fl, ⟨qs, t _ _ hr1, Paired.mapP hr2 fun _ _ e => t _ _ e⟩, ⟨kvs0, t _ _ hkv, Paired.mapP hkvs fun _ _ e => ⟨e.1, let ⟨q, e1, e2⟩ := e.2; ⟨q, e1, t _ _ e2⟩⟩⟩⟩ (kHH (sA.trans t)) (d1.same t)
  repeat walk_at "st"
  refine r_slA (n := 2) hA.sg fun a1 H2 s2 hsg => ?_
  repeat walk_at "st"
  refine r_slA (n := 2) (s2 _ _ hA.md) fun a2 H3 s3 hmd => ?_
  repeat walk_at "st"
  intro ru nru
  repeat walk_at "st"
  refine ⟨by show 3 ≤ sizeLine; omega, fun t1 nt1 => ?_⟩
  obtain ⟨sg, esg⟩ : ∃ l, l = p.sg.take 2 := ⟨_, rfl⟩
  obtain ⟨md, emd⟩ : ∃ l, l = p.md.take 2 := ⟨_, rfl⟩
  rw [← List.map_take, ← esg] at hsg
  rw [← List.map_take, ← emd] at hmd
  have lsg : 1 ≤ sg.length ∧ sg.length ≤ 2 := by rw [esg, List.length_take]; omega
  have lmd : 1 ≤ md.length ∧ md.length ≤ 2 := by rw [emd, List.length_take]; omega
  have t2 : Same H3 (upd (upd H3 ru (.dT [])) t1 (.tup [.ref a1, .ref a2, .ref ru])) := (Same.new nru).trans (Same.new nt1)
  have er : (upd (upd H3 ru (.dT [])) t1 (.tup [.ref a1, .ref a2, .ref ru])) ru = some (.dT []) := upd_kept upd_same (ne_of_none upd_same nt1)
  have et : (upd (upd H3 ru (.dT [])) t1 (.tup [.ref a1, .ref a2, .ref ru])) t1 = some (.tup [.ref a1, .ref a2, .ref ru]) := upd_same
  have s13 : Same H1 H3 := s2.trans s3
  have d3 : DAt H3 D := d1.same s13
  have nruD : ru ≠ D := da_ne d3 nru
  -- the heap that stays
  obtain ⟨G3, sG, nGD, nGr, sG3⟩ : ∃ G3, Same (Less D H3) G3 ∧ G3 D = none ∧ G3 ru = none ∧ Same G3 H3 := ⟨Less D H3, fun _ _ e => e, Less_none, (show (if ru = D then none else H3 ru) = none by rw [if_neg nruD]; exact nru), Less_same⟩
  have lD : ∀ {b o}, H3 b = some o → b ≠ D → G3 b = some o := fun {b o} e n => sG _ _ (Less_at e n)
  have ltu : ∀ {b xs}, H3 b = some (.tup xs) → G3 b = some (.tup xs) := fun {b xs} e => lD e (tup_ne d3 e)
  have hsgG : G3 a1 = some (.tup (sg.map V.str)) := ltu (s3 _ _ hsg)
  have hmdG : G3 a2 = some (.tup (md.map V.str)) := ltu hmd
  have hflG : G3 A.fl = some (.tup (natsV p.fl)) := ltu (s13 _ _ hA.fl)
  have hrbG : G3 A.rb = some (.tup (qs.map V.ref)) := ltu (s13 _ _ hr1)
  have hrG : Paired (RbL G3) qs p.rb := Paired.mapP hr2 fun _ _ e => ltu (s13 _ _ e)
  have hkvG : G3 A.ru = some (.dT kvs0) := lD (s13 _ _ hkv) (d1.ne hkv (by intro _ _ _ z; cases z))
  have hkvsG : Paired (RuL G3) kvs0 p.ru := Paired.mapP hkvs fun _ _ e => ⟨e.1, let ⟨q, e1, e2⟩ := e.2; ⟨q, e1, ltu (s13 _ _ e2)⟩⟩
  have sAG : Same (Less D H) G3 := Less_from (sA.trans s13) Less_none |>.trans sG
  have s34 := sG3.trans t2
  have d4 := d3.same t2
  generalize upd (upd H3 ru (.dT [])) t1 (.tup [.ref a1, .ref a2, .ref ru]) = H4 at er et s34 d4 ⊢
  refine r_gTup (xs := [.ref a1, .ref a2, .ref ru]) (SqT.of et) rfl ?_
  repeat walk_at "st"
  refine r_lenL (.inr (SqT.of (s34 _ _ hmdG))) ?_
  repeat walk_at "st"
  rw [List.length_map]
  refine ⟨_, rfl, by omega, by omega, ?_⟩
  refine for_range (n := md.length) (fun i σ HA => ∃ (kvs : List (List Key × V)) (rus : List ((Nat × Nat) × Nat × Nat × Nat)), rus.length ≤ 2 * i ∧ (∀ x ∈ rus, x.1.1 < i ∧ x.1.2 < sg.length ∧ x.2.1 < sg.length ∧ x.2.2.1 < 3 ∧ x.2.2.2 < md.length) ∧ (rus.map (·.1)).Pairwise ltN ∧
      Same G3 HA ∧ DAt HA D ∧ HA ru = some (.dT kvs) ∧ Paired (RuL HA) kvs rus ∧
      ∃ y8 y9 y10 y11 y12, σ = [some (.ref D), some (.int (most : Int)), some (.ref a1), some (.ref a2), some (.ref A.fl), some (.ref A.rb), some (.ref A.ru), some (.ref ru), y8, y9, y10, y11, y12])
    ⟨[], [], Nat.zero_le _, (fun _ h => by cases h), .nil, s34, d4, er, .nil, _, _, _, _, _, rfl⟩ ?_ ?_
  · rintro i σ HA hi ⟨kvs, rus, hl4, hb4, hw4, s4, d4, g4, p4, y8, y9, y10, y11, y12, rfl⟩
    repeat walk_at "st"
    refine r_lenL (.inr (SqT.of (s4 _ _ hsgG))) ?_
    repeat walk_at "st"
    rw [List.length_map]
    refine ⟨_, rfl, by omega, by omega, ?_⟩
    refine for_range (n := sg.length) (fun j σ HB => ∃ (kvs : List (List Key × V)) (rus : List ((Nat × Nat) × Nat × Nat × Nat)), rus.length ≤ 2 * i + j ∧ (∀ x ∈ rus, (x.1.1 < i ∨ (x.1.1 = i ∧ x.1.2 < j)) ∧ x.1.2 < sg.length ∧ x.2.1 < sg.length ∧ x.2.2.1 < 3 ∧ x.2.2.2 < md.length) ∧ (rus.map (·.1)).Pairwise ltN ∧
      Same G3 HB ∧ DAt HB D ∧ HB ru = some (.dT kvs) ∧ Paired (RuL HB) kvs rus ∧
      ∃ y9 y10 y11 y12, σ = [some (.ref D), some (.int (most : Int)), some (.ref a1), some (.ref a2), some (.ref A.fl), some (.ref A.rb), some (.ref A.ru), some (.ref ru), some (.int (0 + (i : Int))), y9, y10, y11, y12])
      ⟨kvs, rus, by omega, (fun x hx => ⟨.inl (hb4 x hx).1, (hb4 x hx).2⟩), hw4, s4, d4, g4, p4, _, _, _, _, rfl⟩ ?_ ?_
    · rintro j σ HB hj ⟨kvs, rus, hl5, hb5, hw5, s5, d5, g5, p5, y9, y10, y11, y12, rfl⟩
      have hskip : ∀ x ∈ rus, (x.1.1 < i ∨ (x.1.1 = i ∧ x.1.2 < j + 1)) ∧ x.1.2 < sg.length ∧ x.2.1 < sg.length ∧ x.2.2.1 < 3 ∧ x.2.2.2 < md.length := fun x hx => by
        have := hb5 x hx
        exact ⟨by omega, this.2⟩
      rw [show (0 : Int) + (i : Int) = (i : Int) by omega, show (0 : Int) + (j : Int) = (j : Int) by omega]
      repeat walk_at "st"
      refine ⟨by show 2 ≤ sizeLine; omega, fun tk ntk => ?_⟩
      have sK : Same HB (upd HB tk (.tup [.int (i : Int), .int (j : Int)])) := Same.new ntk
      have eK : (upd HB tk (.tup [.int (i : Int), .int (j : Int)])) tk = some (.tup ([Sum.inl (i : Int), Sum.inl (j : Int)].map kV)) := upd_same
      generalize upd HB tk (.tup [.int (i : Int), .int (j : Int)]) = HC at sK eK ⊢
      repeat walk_at "st"
      have s6 := s5.trans sK
      refine r_dIs (DGet.t (s6 _ _ hkvG) eK) ?_
      refine ⟨_, rfl, ?_⟩
      rcases ruL_get hkvsG i j with ⟨h1, h2⟩ | ⟨v, qv, h1, h2, h3⟩
      · rw [h2]
        refine iteF ?_
        refine r_next ?_
        exact ⟨kvs, rus, by omega, hskip, hw5, s6, d5.same sK, sK _ _ g5, Paired.mapP p5 fun _ _ e => ⟨e.1, let ⟨q, e1, e2⟩ := e.2; ⟨q, e1, sK _ _ e2⟩⟩, _, _, _, _, rfl⟩
      · rw [h2]
        refine iteT ?_
        repeat walk_at "st"
        refine ⟨by show 2 ≤ sizeLine; omega, fun tk2 ntk2 => ?_⟩
        have sK2 : Same HC (upd HC tk2 (.tup [.int (i : Int), .int (j : Int)])) := Same.new ntk2
        have eK2 : (upd HC tk2 (.tup [.int (i : Int), .int (j : Int)])) tk2 = some (.tup ([Sum.inl (i : Int), Sum.inl (j : Int)].map kV)) := upd_same
        generalize upd HC tk2 (.tup [.int (i : Int), .int (j : Int)]) = HD at sK2 eK2 ⊢
        have s7 := s6.trans sK2
        have hdg : DGet HD A.ru (.ref tk2) (some (.ref qv)) := by
          have := DGet.t (s7 _ _ hkvG) eK2
          rw [h2] at this
          exact this
        refine r_dOf hdg ?_
        have B := G.ru _ (rule_mem (show ruleAt p.ru (i, j) = some v from h1))
        dsimp only at B
        refine r_gTup (xs := [.int (v.1 : Int), .str (MOVESs.getD v.2.1 Str.empty), .int (v.2.2 : Int)]) (SqT.of (s7 _ _ h3)) rfl ?_
        repeat walk_at "st"
        refine r_lenL (.inr (SqT.of (s7 _ _ hsgG))) ?_
        rw [List.length_map]
        refine r_I (show (0 : Int) < ((sg.length : Nat) : Int) by omega) ?_
        repeat walk_at "st"
        refine r_lenL (.inr (SqT.of (s7 _ _ hmdG))) ?_
        rw [List.length_map]
        refine r_I (show (0 : Int) < ((md.length : Nat) : Int) by omega) ?_
        repeat walk_at "st"
        rw [← Int.natCast_emod, ← Int.natCast_emod]
        have hm1' := Nat.mod_lt v.1 (show 0 < sg.length by omega)
        have hm2' := Nat.mod_lt v.2.2 (show 0 < md.length by omega)
        refine ⟨by show 3 ≤ sizeLine; omega, fun tv ntv => ?_⟩
        have sV : Same HD (upd HD tv (.tup [.int ((v.1 % sg.length : Nat) : Int), .str (MOVESs.getD v.2.1 Str.empty), .int ((v.2.2 % md.length : Nat) : Int)])) := Same.new ntv
        have eV : (upd HD tv (.tup [.int ((v.1 % sg.length : Nat) : Int), .str (MOVESs.getD v.2.1 Str.empty), .int ((v.2.2 % md.length : Nat) : Int)])) tv = some (.tup [.int ((v.1 % sg.length : Nat) : Int), .str (MOVESs.getD v.2.1 Str.empty), .int ((v.2.2 % md.length : Nat) : Int)]) := upd_same
        generalize upd HD tv (.tup [.int ((v.1 % sg.length : Nat) : Int), .str (MOVESs.getD v.2.1 Str.empty), .int ((v.2.2 % md.length : Nat) : Int)]) = HE at sV eV ⊢
        repeat walk_at "st"
        refine ⟨by show 2 ≤ sizeLine; omega, fun tk3 ntk3 => ?_⟩
        have sK3 : Same HE (upd HE tk3 (.tup [.int (i : Int), .int (j : Int)])) := Same.new ntk3
        have eK3 : (upd HE tk3 (.tup [.int (i : Int), .int (j : Int)])) tk3 = some (.tup ([Sum.inl (i : Int), Sum.inl (j : Int)].map kV)) := upd_same
        generalize upd HE tk3 (.tup [.int (i : Int), .int (j : Int)]) = HF at sK3 eK3 ⊢
        have sAll := ((sK.trans sK2).trans sV).trans sK3
        have g8 := sAll _ _ g5
        have p8 : Paired (RuL HF) kvs rus := Paired.mapP p5 fun _ _ e => ⟨e.1, let ⟨q, e1, e2⟩ := e.2; ⟨q, e1, sAll _ _ e2⟩⟩
        have hkn := PySem.Paired.length p8
        refine r_dPutT g8 eK3 (by omega) ?_
        rw [putK_snoc _ (ru_none p8 fun x hx => (hb5 x hx).1)]
        refine ⟨kvs ++ [([Sum.inl (i : Int), Sum.inl (j : Int)], .ref tv)], rus ++ [((i, j), v.1 % sg.length, v.2.1, v.2.2 % md.length)], by rw [List.length_append]; show _ + 1 ≤ _; omega, ?_, ?_, Same.mut (s5.trans sAll) nGr, ?_, upd_same, ?_, _, _, _, _, rfl⟩
        · intro x hx
          rcases List.mem_append.mp hx with hx | hx
          · exact hskip x hx
          · rw [List.mem_singleton.mp hx]
            exact ⟨.inr ⟨rfl, by show j < j + 1; omega⟩, hj, hm1', B.2.2.2.1, hm2'⟩
        · rw [List.map_append]
          refine List.pairwise_append.mpr ⟨hw5, List.pairwise_singleton _ _, fun x hx y hy => ?_⟩
          obtain ⟨z, hz, rfl⟩ := List.mem_map.mp hx
          rw [List.map_cons, List.map_nil, List.mem_singleton] at hy
          rw [hy]
          exact (hb5 z hz).1
        · obtain ⟨u1, u2, u3, u4, u5⟩ := d5
          exact ⟨u1, u2, u3, u4, upd_kept (sAll _ _ u5) nruD.symm⟩
        · refine Paired.snoc (Paired.mapP p8 fun _ _ e => ⟨e.1, let ⟨q, e1, e2⟩ := e.2; ⟨q, e1, upd_kept e2 (ne_of e2 g8 (by intro z; cases z))⟩⟩) ?_
          exact ⟨rfl, tv, rfl, upd_kept (sK3 _ _ eV) (ne_of (sK3 _ _ eV) g8 (by intro z; cases z))⟩
    rintro σ HB ⟨kvs, rus, hl5, hb5, hw5, s5, d5, g5, p5, y9, y10, y11, y12, rfl⟩
    refine ⟨kvs, rus, by omega, (fun x hx => ?_), hw5, s5, d5, g5, p5, _, _, _, _, _, rfl⟩
    have := hb5 x hx
    exact ⟨by omega, this.2⟩
  rintro σ HA ⟨kvs, rus, hl4, hb4, hw4, s4, d4, g4, p4, y8, y9, y10, y11, y12, rfl⟩
  repeat walk_at "st"
  refine r_lc ?_
  repeat walk_at "st"
  refine r_itT (SqT.of (s4 _ _ hflG)) ?_
  intro fl nfl
  have nflD : fl ≠ D := da_ne d4 nfl
  refine lc_tup (xs := natsV p.fl) (fun i H5 => Same HA H5 ∧ H5 fl = some (.lst (natsV ((p.fl.take i).map fun x => x % sg.length)))) ⟨Same.new nfl, upd_same⟩ ?_ ?_ ?_
  · rintro i H5 _ ⟨s5, _⟩
    exact SqT.of (s5 _ _ (s4 _ _ hflG))
  · rintro i x H5 hx ⟨s5, g5⟩
    unfold natsV at hx
    rw [List.getElem?_map] at hx
    cases hq : p.fl[i]? with
    | none => rw [hq] at hx; cases hx
    | some y =>
      rw [hq] at hx
      cases hx
      refine r_gname ?_
      refine ⟨rfl, ?_⟩
      refine r_yes' ?_
      refine iteT ?_
      repeat walk_at "st"
      refine r_lenL (.inr (SqT.of (s5 _ _ (s4 _ _ hsgG)))) ?_
      rw [List.length_map]
      refine r_I (show (0 : Int) < ((sg.length : Nat) : Int) by omega) ?_
      refine ⟨_, g5, by unfold natsV; rw [List.length_map, List.length_map, List.length_take]; omega, Same.mut s5 nfl, ?_⟩
      rw [upd_same, List.take_add_one, hq, List.map_append, ← Int.natCast_emod]
      unfold natsV
      rw [List.map_append]
      rfl
  rintro H5 ⟨s5, g5⟩
  rw [show (natsV p.fl).length = p.fl.length from by unfold natsV; rw [List.length_map], List.take_length] at g5
  obtain ⟨fls, efl⟩ : ∃ l, l = p.fl.map fun x => x % sg.length := ⟨_, rfl⟩
  rw [← efl] at g5
  refine ⟨fl, _, rfl, .inl ⟨SqL.of g5, fun a3 na3 => ?_⟩⟩
  have s6 : Same H5 (upd H5 a3 (.tup (natsV fls))) := Same.new na3
  have e6 : (upd H5 a3 (.tup (natsV fls))) a3 = some (.tup (natsV fls)) := upd_same
  generalize upd H5 a3 (.tup (natsV fls)) = H6 at s6 e6 ⊢
  have s46 := (s4.trans s5).trans s6
  repeat walk_at "st"
  refine r_slA (n := 2) (s46 _ _ hrbG) fun a4 H7 s7 hrb7 => ?_
  rw [← List.map_take] at hrb7
  repeat walk_at "st"
  refine ⟨by show 5 ≤ sizeLine; omega, fun q nq => ?_⟩
  have t8 := Same.new (o := .tup [.ref a1, .ref a2, .ref a3, .ref a4, .ref ru]) nq
  have s47 := (s46.trans s7).trans t8
  have sA7 := ((s5.trans s6).trans s7).trans t8
  have d8 := d4.same sA7
  have hsub1 : sg.Sublist p.sg := by rw [esg]; exact List.take_sublist _ _
  have hsub2 : md.Sublist p.md := by rw [emd]; exact List.take_sublist _ _
  have hrl : (p.rb.take 2).length = 2 := by rw [List.length_take]; omega
  have hfl : fls.length = p.fl.length := by rw [efl, List.length_map]
  have paired_take : ∀ {α β : Type} {R : α → β → Prop} {l : List α} {m : List β}, Paired R l m → ∀ n, Paired R (l.take n) (m.take n) := by
    intro α β R l m hp
    induction hp with
    | nil => intro n; rw [List.take_nil, List.take_nil]; exact .nil
    | cons h t ih =>
      intro n
      cases n with
      | zero => exact .nil
      | succ n => exact .cons h (ih n)
  refine k _ ⟨q, a1, a2, a3, a4, ru⟩ ⟨sg, md, fls, p.rb.take 2, rus⟩ ?_ ⟨?_, .inr ⟨hrl, lsg.2, lmd.2⟩⟩ ?_ ?_ d8
  · refine ⟨fun z hz => G.sg z (hsub1.subset hz), hsub1.nodup G.sd, ⟨lsg.1, by show sg.length ≤ 4; omega⟩, fun z hz => G.md z (hsub2.subset hz), hsub2.nodup G.dd, ⟨lmd.1, by show md.length ≤ 3; omega⟩, fun x hx => ?_, ?_, fun r hr => ?_, ⟨by show 1 ≤ (p.rb.take 2).length; omega, by show (p.rb.take 2).length ≤ 3; omega⟩, hb4, hw4, by show rus.length ≤ 12; omega⟩
    · rw [show (LP.mk sg md fls (p.rb.take 2) rus).fl = fls from rfl, efl] at hx
      obtain ⟨y, _, e⟩ := List.mem_map.mp hx
      rw [← e]
      exact Nat.mod_lt _ (by omega)
    · show 1 ≤ fls.length ∧ fls.length ≤ min most 4
      rw [hfl]
      exact g4'
    · show r.1 < fls.length
      rw [hfl]
      exact G.rb r (List.mem_of_mem_take hr)
  · show fls.length ≤ 4
    rw [hfl]
    omega
  · exact ⟨upd_same, s47 _ _ hsgG, s47 _ _ hmdG, t8 _ _ (s7 _ _ e6), ⟨qs.take 2, t8 _ _ hrb7, paired_take (Paired.mapP hrG fun _ _ e => s47 _ _ e) 2⟩, ⟨kvs, sA7 _ _ g4, Paired.mapP p4 fun _ _ e => ⟨e.1, let ⟨q, e1, e2⟩ := e.2; ⟨q, e1, sA7 _ _ e2⟩⟩⟩⟩
  · exact kHH (sAG.trans s47)
end
end Sw

/-! Two plans at once; the first tick after which they differ. -/
namespace Sw
open PySem L2
theorem dp_int1 {K : PySem.W.Frag} {H : Hp} : ∀ l : List Int, DpAll K H (l.map V.int) (l.map PySem.PyData.int)
  | [] => .nil
  | z :: r => .cons (.int z) (dp_int1 r)
theorem sh1_can : ∀ l : List Int, PyData.canLayAll0 (l.map PyData.int) = true
  | [] => rfl
  | x :: r => by simp [PyData.canLayAll0, PyData.canLay0, sh1_can r]
theorem sh1_dep : ∀ l : List Int, PyData.depthAll (l.map PyData.int) = 0
  | [] => rfl
  | _ :: r => by simp [PyData.depthAll, PyData.depth, sh1_dep r]
theorem sh1_tup (l : List Int) : SeqAt.shaped (.tuple (l.map PyData.int)) = true := by
  simp [SeqAt.shaped, PyData.canLay0, PyData.depth, sh1_can l, sh1_dep]
theorem eqva1 : ∀ l : List Int, PyData.eqvAll (l.map PyData.int) (l.map PyData.int) = true
  | [] => rfl
  | z :: r => by
    show (PyData.eqv (.int z) (.int z) && PyData.eqvAll (r.map PyData.int) (r.map PyData.int)) = true
    rw [eqva1 r]
    simp [PyData.eqv]
theorem eqv1_tup (l : List Int) : PyData.eqv (.tuple (l.map PyData.int)) (.tuple (l.map PyData.int)) = true := eqva1 l
theorem eqvs1 : ∀ l : List Str, PyData.eqvAll (l.map PyData.str) (l.map PyData.str) = true
  | [] => rfl
  | z :: r => by
    show (PyData.eqv (.str z) (.str z) && PyData.eqvAll (r.map PyData.str) (r.map PyData.str)) = true
    rw [eqvs1 r]
    simp [PyData.eqv]
theorem eqvs1_lst (l : List Str) : PyData.eqv (.list (l.map PyData.str)) (.list (l.map PyData.str)) = true := eqvs1 l
theorem r_orT {t1 t2 : TT} {σ : St} {H : Hp} {QB : Bool → Hp → Prop} (h1 : ∀ QB : Bool → Hp → Prop, (∀ H', Same H H' → QB false H') → t1 σ H QB) (h2 : ∀ H', Same H H' → t2 σ H' QB) : tOr t1 t2 σ H QB := h1 _ fun H' s => iteF (h2 H' s)
theorem st_less {a : Adr} {H : Hp} {q pl D : Addr} {st : Stm} {xs : List V} (h : StAt a H q pl st) (hD : H D = some (.lst xs)) (n : pl ≠ D) : StAt a (Less D H) q pl st := by
  obtain ⟨dx, wq, ps, h1, ⟨dy, h2⟩, h3, h4⟩ := h
  have hn : ∀ {b C d fs}, H b = some (.ins C d fs) → b ≠ D := fun e => ne_of e hD (by intro z; cases z)
  exact ⟨dx, wq, ps, Less_at h1 (hn h1), ⟨dy, Less_at h2 (hn h2)⟩, Less_at h3 n, Paired.mapP h4 fun _ _ ⟨d, e⟩ => ⟨d, Less_at e (hn e)⟩⟩
theorem plan_offL {a : Adr} {H : Hp} {A : PA} {pd : PlanD} {x : Addr} {xs : List V} (hA : PlanAt a H A pd) (hx : H x = some (.lst xs)) (n1 : A.sg ≠ x) (n2 : A.md ≠ x) (n3 : A.rb ≠ x) : PlanAt a (Less x H) A pd := by
  obtain ⟨dp, hpl⟩ := hA.ob
  obtain ⟨qs0, hr1, hr2⟩ := hA.rb
  obtain ⟨kvs0, hkv, hkvs⟩ := hA.rl
  have hn : ∀ {b o}, H b = some o → (∀ ys, o ≠ .lst ys) → Less x H b = some o := fun {b o} e h => Less_at e fun z => by
    rw [z, hx] at e
    cases e
    exact h _ rfl
  refine ⟨⟨dp, hn hpl ?_⟩, Less_at hA.sg n1, Less_at hA.md n2, ⟨qs0, Less_at hr1 n3, Paired.mapP hr2 fun _ _ e => hn e ?_⟩, hn hA.pt ?_, ⟨kvs0, hn hkv ?_, Paired.mapP hkvs fun _ _ e => ⟨e.1, let ⟨q, e1, e2⟩ := e.2; ⟨q, e1, hn e2 ?_⟩⟩⟩, hA.d1, hA.d2, hA.d3⟩
  all_goals (intro _ z; cases z)
def ParAt (a : Adr) (F : Hp) (p : Addr) (ss : List Stm) : Prop := ∃ qs : List Addr, F p = some (.lst (qs.map V.ref)) ∧ Paired (fun q st => ∃ pl, StAt a F q pl st) qs ss
theorem ParAt.mono {a : Adr} {F F' : Hp} {p : Addr} {ss : List Stm} (h : ParAt a F p ss) (s : Same F F') : ParAt a F' p ss := by
  obtain ⟨qs, h1, h2⟩ := h
  exact ⟨qs, s _ _ h1, Paired.mapP h2 fun _ _ ⟨pl, e⟩ => ⟨pl, e.mono s⟩⟩
def sp_read_plans (K : PySem.W.Frag) (a : Adr) : Sp := fun vs H Q _ => ∃ (l : Addr) (z1 z2 : Str) (pd1 pd2 : PlanD) (ts1 ts2 : List Tk) (ss1 ss2 : List Stm), vs = [.ref l] ∧ H l = some (.lst [.str z1, .str z2]) ∧ Good z1 pd1 ts1 ss1 ∧ Good z2 pd2 ts2 ss2 ∧
  ∀ (H' : Hp) (q : Addr) (A1 A2 : PA), Same H H' → H q = none → H' q = some (.lst [.ref A1.p, .ref A2.p]) → PlanAt a H' A1 pd1 → PlanAt a H' A2 pd2 → Q (.ref q) H'
def sp_signs_after (K : PySem.W.Frag) (a : Adr) : Sp := fun vs H Q _ => ∃ (R : RunA) (pd : PlanD) (start N t : Nat), vs = [.ref R.p, .int (t : Int)] ∧ RunD a H R pd start N ∧ ∀ q, H q = some (.tup (natsV (seqM pd (t + 1)).signs)) → Q (.ref q) H
/-- two plans whose situations are alike: no difference -/
def sp_first_difference (K : PySem.W.Frag) (a : Adr) : Sp := fun vs H Q _ => ∃ (z1 z2 : Str) (pd1 pd2 : PlanD), vs = [.str z1, .str z2] ∧ Told z1 pd1 ∧ Told z2 pd2 ∧ pd1.size = pd2.size ∧ pd1.signs = pd2.signs ∧ (∀ z ∈ pd1.signs, PyData.strOk z = true) ∧ (∀ n, seqM pd1 n = seqM pd2 n) ∧
  ∀ H' : Hp, Same H H' → Q .non H'
section
variable {P : Program} {w : World} {K : PySem.W.Frag} {mg : Str → Option Value} {base : Heap} {a : Adr}
theorem ok_read_plans {f : Addr} {fd : FuncData} (F : Fun K "read_plans" "read_plans" s_read_plans f fd) (T : Txt w K mg a)
    {f_parse : Addr} {fd_parse : FuncData} (G_parse : Cal P w K mg base "parse" 7 f_parse fd_parse ps_parse (sp_parse K a))
    {f_checked_plan : Addr} {fd_checked_plan : FuncData} (G_checked_plan : Cal P w K mg base "checked_plan" 10 f_checked_plan fd_checked_plan ps_checked_plan (sp_checked_plan K a)) :
    FnOk P w K mg base CX0 11 f fd ps_read_plans (sp_read_plans K a) := by
  refine F.ok sc_read_plans (fun vs H Q E h => ?_) (fun cdv A outer s H vs Q E hr h => ?_)
  · obtain ⟨l, z1, z2, pd1, pd2, ts1, ts2, ss1, ss2, rfl, hl, g1, g2, k⟩ := h
    rfl
  obtain ⟨l, z1, z2, pd1, pd2, ts1, ts2, ss1, ss2, rfl, hl, g1, g2, k⟩ := h
  have hu := hu_of hr
  refine ⟨_, 
    (pss_cons (ps_setLc (i := 1) (own := [("text", 2)]) (tt := tYes) rfl sc_read_plans.nd rfl rfl (sw_true rfl rfl rfl (by decide +kernel)) (pi_list (pv 0)) (blkOk_by (own := [("text", 2)]) (N := nm_read_plans) (sc := defScope s_read_plans) (by decide +kernel)) (fun _ _ _ _ _ => pg_name (i := 2) sc_read_plans.nd rfl (.inl rfl)) (fun _ _ _ _ _ => pts_nil) (fun _ _ _ _ _ => (pe_call G_parse.ok (hr.mono (by decide)) rfl G_parse.mg' G_parse.kp G_parse.b .nil pass0 (pa_cons (pv 2) pa_nil)))) 
    (pss_one (ps_ret (pe_lc (own := [("statements", 3)]) (tt := tYes) rfl sc_read_plans.nd (pi_list (pv 1)) (blkOk_by (own := [("statements", 3)]) (N := nm_read_plans) (sc := defScope s_read_plans) (by decide +kernel)) (fun _ _ _ _ _ => pg_name (i := 3) sc_read_plans.nd rfl (.inl rfl)) (fun _ _ _ _ _ => pts_nil) (fun _ _ _ _ _ => (pe_call G_checked_plan.ok (hr.mono (by decide)) rfl G_checked_plan.mg' G_checked_plan.kp G_checked_plan.b .nil pass0 (pa_cons (pv 3) pa_nil))))))), ?_⟩
  have szl : 10000 ≤ sizeLine := by decide
  repeat walk_at "st"
  refine r_lc ?_
  repeat walk_at "st"
  refine r_itL (SqL.of hl) ?_
  intro D nD
  refine lc_list (xs := [.str z1, .str z2]) (fun i H3 => ∃ (Fz : Hp) (ps : List Addr), Same H Fz ∧ Fz D = none ∧ Same Fz H3 ∧ H3 D = some (.lst (ps.map V.ref)) ∧ Paired (ParAt a Fz) ps ([ss1, ss2].take i))
    ⟨H, [], fun _ _ e => e, nD, Same.new nD, upd_same, .nil⟩ ?_ ?_ ?_
  · rintro i H3 _ ⟨Fz, ps, sF, nF, s3, _⟩
    exact SqL.of ((sF.trans s3) _ _ hl)
  · rintro i x H3 hx ⟨Fz, ps, sF, nF, s3, g3, hps⟩
    obtain ⟨z, ts, ss, rfl, ht, hp, hnext⟩ : ∃ (z : Str) (ts : List Tk) (ss : List Stm), x = .str z ∧ TokPre z ts ∧ parseM ts = some ss ∧ [ss1, ss2].take (i + 1) = [ss1, ss2].take i ++ [ss] := by
      match i with
      | 0 => cases hx; exact ⟨z1, ts1, ss1, rfl, g1.tok, g1.par, rfl⟩
      | 1 => cases hx; exact ⟨z2, ts2, ss2, rfl, g2.tok, g2.par, rfl⟩
      | n + 2 => cases hx
    have hpl := PySem.Paired.length hps
    have hl2 : ps.length ≤ 2 := by rw [hpl, List.length_take]; exact Nat.min_le_right _ _
    refine r_gname ?_
    refine ⟨rfl, ?_⟩
    refine r_yes' ?_
    refine iteT ?_
    repeat walk_at "st"
    refine ⟨z, ts, ss, rfl, ht, hp, fun H4 p qs s4 np hq hst => ?_⟩
    have g4 := s4 _ _ g3
    have npD : p ≠ D := fun e => by rw [e, g3] at np; cases np
    have sF4 : Same Fz (Less D H4) := Less_from (s3.trans s4) nF
    refine ⟨_, g4, by rw [List.length_map]; omega, Less D H4, ps ++ [p], sF.trans sF4, Less_none, fun b o e => ?_, by rw [upd_same, List.map_append]; rfl, ?_⟩
    · have nb : b ≠ D := fun z => by rw [z, Less_none] at e; cases e
      exact upd_kept (Less_same _ _ e) nb
    · rw [hnext]
      refine Paired.snoc (Paired.mapP hps fun _ _ e => e.mono sF4) ⟨qs, Less_at hq npD, Paired.mapP hst fun q st h => ?_⟩
      obtain ⟨pl, ⟨_, hpl2⟩, hs⟩ := h
      exact ⟨pl, st_less hs g4 fun e => by rw [e, g3] at hpl2; cases hpl2⟩
  rintro H3 ⟨Fz, ps, sF, nF, s3, g3, hps⟩
  have s03 := sF.trans s3
  repeat walk_at "st"
  refine r_lc ?_
  repeat walk_at "st"
  refine r_itL (SqL.of g3) ?_
  intro D2 nD2
  have hps3 : Paired (ParAt a H3) ps [ss1, ss2] := Paired.mapP hps fun _ _ e => e.mono s3
  refine lc_list (xs := ps.map V.ref) (fun i H5 => ∃ (Fz : Hp) (As : List PA), Same H3 Fz ∧ Fz D2 = none ∧ Same Fz H5 ∧ H5 D2 = some (.lst (As.map fun A => V.ref A.p)) ∧ Paired (fun A pd => PlanAt a Fz A pd) As ([pd1, pd2].take i))
    ⟨H3, [], fun _ _ e => e, nD2, Same.new nD2, upd_same, .nil⟩ ?_ ?_ ?_
  · rintro i H5 _ ⟨Fz, As, sF, nF, s5, _⟩
    exact SqL.of ((sF.trans s5) _ _ g3)
  · rintro i x H5 hx ⟨Fz, As, sF, nF, s5, g5, hAs⟩
    rw [List.getElem?_map] at hx
    cases hq : ps[i]? with
    | none => rw [hq] at hx; cases hx
    | some p =>
      rw [hq] at hx
      cases hx
      obtain ⟨ss, hs1, hs2⟩ := paired_get hps3 hq
      obtain ⟨pd, ts, hgd, hnext⟩ : ∃ (pd : PlanD) (ts : List Tk), (∃ z, Good z pd ts ss) ∧ [pd1, pd2].take (i + 1) = [pd1, pd2].take i ++ [pd] := by
        match i with
        | 0 => cases hs1; exact ⟨pd1, ts1, ⟨z1, g1⟩, rfl⟩
        | 1 => cases hs1; exact ⟨pd2, ts2, ⟨z2, g2⟩, rfl⟩
        | n + 2 => cases hs1
      obtain ⟨z, gd⟩ := hgd
      obtain ⟨qs, hq1, hq2⟩ := hs2.mono (sF.trans s5)
      have hal := PySem.Paired.length hAs
      have hl2 : As.length ≤ 2 := by rw [hal, List.length_take]; exact Nat.min_le_right _ _
      refine r_gname ?_
      refine ⟨rfl, ?_⟩
      refine r_yes' ?_
      refine iteT ?_
      repeat walk_at "st"
      refine ⟨p, qs, pd, ss, rfl, hq1, hq2, gd.add, gd.len, gd.many, fun H6 A hA s6 hf => ?_⟩
      have g6 := s6 _ _ g5
      have hne : ∀ x, (x = A.p ∨ x = A.sg ∨ x = A.md ∨ x = A.rb ∨ x = A.pt ∨ x = A.rl) → x ≠ D2 := fun x hx e => by
        have := hf x hx
        rw [e, g5] at this
        cases this
      have sF6 : Same Fz (Less D2 H6) := Less_from (s5.trans s6) nF
      refine ⟨_, g6, by rw [List.length_map]; omega, Less D2 H6, As ++ [A], sF.trans sF6, Less_none, fun b o e => ?_, by rw [upd_same, List.map_append]; rfl, ?_⟩
      · have nb : b ≠ D2 := fun z => by rw [z, Less_none] at e; cases e
        exact upd_kept (Less_same _ _ e) nb
      · rw [hnext]
        exact Paired.snoc (Paired.mapP hAs fun _ _ e => e.mono sF6) (plan_offL hA g6 (hne _ (.inr (.inl rfl))) (hne _ (.inr (.inr (.inl rfl)))) (hne _ (.inr (.inr (.inr (.inl rfl))))))
  rintro H5 ⟨Fz, As, sF, nF, s5, g5, hAs⟩
  rw [List.length_map, PySem.Paired.length hps] at hAs
  have hAs2 : Paired (fun A pd => PlanAt a Fz A pd) As [pd1, pd2] := hAs
  clear hAs
  match As, hAs2 with
  | [A1, A2], .cons h1 (.cons h2 .nil) =>
    exact k H5 D2 A1 A2 (s03.trans (sF.trans s5)) (none_back s03 nD2) g5 (h1.mono s5) (h2.mono s5)
theorem ok_signs_after {f : Addr} {fd : FuncData} (F : Fun K "signs_after" "signs_after" s_signs_after f fd) (T : Txt w K mg a)
    {f_Run_first_like : Addr} {fd_Run_first_like : FuncData} (ME_Run_first_like : Meth K a.cRun "first_like" f_Run_first_like) (G_Run_first_like : CalM P w K mg base 2 f_Run_first_like fd_Run_first_like ps_Run_first_like (sp_Run_first_like K a)) :
    FnOk P w K mg base CX0 3 f fd ps_signs_after (sp_signs_after K a) := by
  refine F.ok sc_signs_after (fun vs H Q E h => ?_) (fun cdv A outer s H vs Q E hr h => ?_)
  · obtain ⟨R, pd, start, N, t, rfl, hR, k⟩ := h
    rfl
  obtain ⟨R, pd, start, N, t, rfl, hR, k⟩ := h
  have hu := hu_of hr
  refine ⟨_, 
    (pss_cons (ps_asg (pe_ix ix_list (pe_fld (pv 0) rfl) (pe_meth (pv 0) T.cl_Run ME_Run_first_like G_Run_first_like.ok (hr.mono (by decide)) G_Run_first_like.b .nil pass0 (pa_cons (pe_op op_add (pv 1) pe_int) pa_nil)) (fun _ _ => rfl)) (pg_tup rfl (pgs_cons (pg_name (i := 2) sc_signs_after.nd rfl (.inl rfl)) (pgs_cons (pg_name (i := 3) sc_signs_after.nd rfl (.inl rfl)) pgs_nil)))) 
    (pss_one (ps_ret (pv 2)))), ?_⟩
  obtain ⟨⟨dx, hi⟩, ⟨bs, hs1, hs2, hs3⟩, hw, hc, hN⟩ := id hR
  have hlt0 := hc.lt
  repeat walk_at "st"
  refine r_fldOf hi T.cl_Run T.n_Run_situations rfl ?_
  repeat walk_at "st"
  refine ⟨_, _, _, rfl, hi, rfl, ?_⟩
  repeat walk_at "st"
  refine ⟨R, _, _, ((t + 1 : Nat) : Int), rfl, ⟨dx, hi⟩, by omega, ?_⟩
  rw [like_cast (t := t + 1) hc.lt]
  have hlt := like_lt (t := t + 1) hc.lt
  have elike := cyc_like hc (t + 1)
  generalize likeN start (N - start) (t + 1) = e at hlt elike ⊢
  obtain ⟨b, hb⟩ : ∃ b, bs[e]? = some b := ⟨_, List.getElem?_eq_getElem (by omega)⟩
  refine r_ixL (SqL.of hs1) (nat_at (x := V.ref b.q) (by rw [List.getElem?_map, hb]; rfl)) ?_
  have hB := hs3 _ _ hb
  rw [← elike] at hB
  refine r_gTup (xs := [.ref b.s, .ref b.r]) (SqT.of hB.q) rfl ?_
  repeat walk_at "st"
  exact k _ hB.s
theorem ok_first_difference {f : Addr} {fd : FuncData} (F : Fun K "first_difference" "first_difference" s_first_difference f fd) (T : Txt w K mg a)
    {f_read_plans : Addr} {fd_read_plans : FuncData} (G_read_plans : Cal P w K mg base "read_plans" 11 f_read_plans fd_read_plans ps_read_plans (sp_read_plans K a))
    {f_Run_init : Addr} {fd_Run_init : FuncData} (M_Run : Mk K a.cRun f_Run_init) (G_Run_init : CalM P w K mg base 4 f_Run_init fd_Run_init ps_Run_init (sp_Run_init K a))
    {f_signs_after : Addr} {fd_signs_after : FuncData} (G_signs_after : Cal P w K mg base "signs_after" 3 f_signs_after fd_signs_after ps_signs_after (sp_signs_after K a)) :
    FnOk P w K mg base CX0 12 f fd ps_first_difference (sp_first_difference K a) := by
  refine F.ok sc_first_difference (fun vs H Q E h => ?_) (fun cdv A outer s H vs Q E hr h => ?_)
  · obtain ⟨z1, z2, pd1, pd2, rfl, t1, t2, hsz, hsg, hso, hseq, k⟩ := h
    rfl
  obtain ⟨z1, z2, pd1, pd2, rfl, t1, t2, hsz, hsg, hso, hseq, k⟩ := h
  have hu := hu_of hr
  refine ⟨_, 
    (pss_cons (ps_asg (pe_call G_read_plans.ok (hr.mono (by decide)) rfl G_read_plans.mg' G_read_plans.kp G_read_plans.b .nil pass0 (pa_cons (pe_lst (pa_cons (pv 0) (pa_cons (pv 1) pa_nil))) pa_nil)) (pg_lst rfl (pgs_cons (pg_name (i := 2) sc_first_difference.nd rfl (.inl rfl)) (pgs_cons (pg_name (i := 3) sc_first_difference.nd rfl (.inl rfl)) pgs_nil)))) 
    (pss_cons (ps_if (PW.pt (pw_or (pt_cmpR op_ne (pe_fld (pv 2) rfl) (pe_fld (pv 3) rfl) (nomark _)) (pw_or1 (pt_cmpR (op_neD hr.units) (pe_fld (pv 2) rfl) (pe_fld (pv 3) rfl) (nomark _))))) 
      (pss_one ps_never) pss_nil) 
    (pss_cons (ps_set (i := 4) sc_first_difference.nd rfl (.inl rfl) (pe_make M_Run G_Run_init.ok (hr.mono (by decide)) rfl T.c_Run G_Run_init.b .nil pass0 (pa_cons (pv 2) pa_nil))) 
    (pss_cons (ps_set (i := 5) sc_first_difference.nd rfl (.inl rfl) (pe_make M_Run G_Run_init.ok (hr.mono (by decide)) rfl T.c_Run G_Run_init.b .nil pass0 (pa_cons (pv 3) pa_nil))) 
    (pss_cons (ps_set (i := 6) sc_first_difference.nd rfl (.inl rfl) (pe_op op_add (pe_op op_add (pe_callB (call_max2 rfl) (by rfl) T.n_max (by decide +kernel) (pa_cons (pe_fld (pv 4) rfl) (pa_cons (pe_fld (pv 5) rfl) pa_nil))) (pe_fld (pv 4) rfl)) (pe_fld (pv 5) rfl))) 
    (pss_cons (ps_for PassesOwn.never rfl (pi_range1 (by rfl) T.n_range (pa_cons (pv 6) pa_nil)) (pg_name (i := 7) sc_first_difference.nd rfl (.inl rfl)) 
      (pss_one (ps_if (pt_cmpR (op_neD hr.units) (pe_call G_signs_after.ok (hr.mono (by decide)) rfl G_signs_after.mg' G_signs_after.kp G_signs_after.b .nil pass0 (pa_cons (pv 4) (pa_cons (pv 7) pa_nil))) (pe_call G_signs_after.ok (hr.mono (by decide)) rfl G_signs_after.mg' G_signs_after.kp G_signs_after.b .nil pass0 (pa_cons (pv 5) (pa_cons (pv 7) pa_nil))) (nomark _)) 
        (pss_one (ps_ret (pv 7))) pss_nil))) 
    (pss_one (ps_ret pe_non)))))))), ?_⟩
  have szl : 10000 ≤ sizeLine := by decide
  obtain ⟨⟨ts1, ss1, g1⟩, hF1, hE1⟩ := t1
  obtain ⟨⟨ts2, ss2, g2⟩, hF2, hE2⟩ := t2
  repeat walk_at "st"
  refine ⟨by show 2 ≤ sizeLine; omega, fun l nl => ?_⟩
  have s1 : Same H (upd H l (.lst [.str z1, .str z2])) := Same.new nl
  have gl : (upd H l (.lst [.str z1, .str z2])) l = some (.lst [.str z1, .str z2]) := upd_same
  generalize upd H l (.lst [.str z1, .str z2]) = H1 at s1 gl ⊢
  refine ⟨l, z1, z2, pd1, pd2, ts1, ts2, ss1, ss2, rfl, gl, g1, g2, fun H2 q A1 A2 s2 nq gq hA1 hA2 => ?_⟩
  refine r_gLst (xs := [.ref A1.p, .ref A2.p]) (SqL.of gq) rfl ?_
  obtain ⟨dp1, hp1⟩ := id hA1.ob
  obtain ⟨dp2, hp2⟩ := id hA2.ob
  have h1sg := hA1.sg
  have h2sg := hA2.sg
  rw [← hsg] at h2sg
  rw [← hsz] at hp2
  repeat walk_at "st"
  refine r_orT (fun QB qq => ?_) ?_
  · repeat walk_at "st"
    refine r_fldOf hp1 T.cl_Plan T.n_Plan_size rfl ?_
    repeat walk_at "st"
    refine r_fldOf hp2 T.cl_Plan T.n_Plan_size rfl ?_
    repeat walk_at "ni"
    rw [decide_eq_true rfl]
    exact qq _ fun _ _ e => e
  intro H3 s3
  repeat walk_at "st"
  refine r_fldOf (s3 _ _ hp1) T.cl_Plan T.n_Plan_signs rfl ?_
  repeat walk_at "st"
  refine r_fldOf (s3 _ _ hp2) T.cl_Plan T.n_Plan_signs rfl ?_
  refine ⟨.list (pd1.signs.map PyData.str), .list (pd1.signs.map PyData.str), .lst (SqL.of (s3 _ _ h1sg)) (dp_strs _), .lst (SqL.of (s3 _ _ h2sg)) (dp_strs _), sh_strs _ hso, sh_strs _ hso, ?_⟩
  rw [eqvs1_lst]
  repeat walk_at "st"
  refine iteF ?_
  repeat walk_at "st"
  intro p dx np ndx hdx
  refine ⟨p, dx, A1, pd1, rfl, upd_same, (hA1.mono s3).mono ((Same.new ndx).trans (Same.new (by rw [upd_ne hdx.symm]; exact np))), hF1, hE1, fun H4 R1 start1 N1 eR hR1 k1 n1 n2 => ⟨rfl, ?_⟩⟩
  subst eR
  have s4 : Same H3 H4 := Same.made np ndx k1
  repeat walk_at "st"
  intro p2 dx2 np2 ndx2 hdx2
  refine ⟨p2, dx2, A2, pd2, rfl, upd_same, ((hA2.mono s3).mono s4).mono ((Same.new ndx2).trans (Same.new (by rw [upd_ne hdx2.symm]; exact np2))), hF2, hE2, fun H5 R2 start2 N2 eR hR2 k2 n3 n4 => ⟨rfl, ?_⟩⟩
  subst eR
  have s5 : Same H4 H5 := Same.made np2 ndx2 k2
  have hR1' := hR1.same s5
  obtain ⟨⟨dy1, hi1⟩, _, _, hc1, hN1⟩ := id hR1'
  obtain ⟨⟨dy2, hi2⟩, _, _, hc2, hN2⟩ := id hR2
  have hl1 := hc1.lt
  have hl2 := hc2.lt
  repeat walk_at "st"
  refine r_fldOf hi1 T.cl_Run T.n_Run_start rfl ?_
  repeat walk_at "st"
  refine r_fldOf hi2 T.cl_Run T.n_Run_start rfl ?_
  repeat walk_at "st"
  refine ⟨_, _, rfl, ?_⟩
  repeat walk_at "st"
  refine r_fldOf hi1 T.cl_Run T.n_Run_length rfl ?_
  repeat walk_at "st"
  refine r_fldOf hi2 T.cl_Run T.n_Run_length rfl ?_
  repeat walk_at "st"
  obtain ⟨m, hm, hm2⟩ : ∃ m : Nat, (if (start2 : Int) > (start1 : Int) then (start2 : Int) else (start1 : Int)) + ((N1 : Int) - (start1 : Int)) + ((N2 : Int) - (start2 : Int)) = (m : Int) ∧ m ≤ 100000 := by
    by_cases h : (start2 : Int) > (start1 : Int)
    · rw [if_pos h]
      exact ⟨start2 + (N1 - start1) + (N2 - start2), by omega, by omega⟩
    · rw [if_neg h]
      exact ⟨start1 + (N1 - start1) + (N2 - start2), by omega, by omega⟩
  rw [hm]
  refine ⟨_, rfl, by omega, by omega, ?_⟩
  rw [Int.toNat_natCast]
  refine for_range (n := m) (fun i σ H6 => H6 = H5 ∧ ∃ x7 : Option V, σ = [some (.str z1), some (.str z2), some (.ref A1.p), some (.ref A2.p), some (.ref R1.p), some (.ref R2.p), some (.int (m : Int)), x7]) ⟨rfl, _, rfl⟩ ?_ ?_
  · rintro i σ H6 hi ⟨rfl, x7, rfl⟩
    rw [show (0 : Int) + (i : Int) = (i : Int) by omega]
    repeat walk_at "st"
    refine ⟨R1, pd1, start1, N1, i, rfl, hR1', fun q1 hq1 => ?_⟩
    repeat walk_at "st"
    refine ⟨R2, pd2, start2, N2, i, rfl, hR2, fun q2 hq2 => ?_⟩
    rw [← hseq] at hq2
    have en : natsV (seqM pd1 (i + 1)).signs = ((seqM pd1 (i + 1)).signs.map fun (j : Nat) => (j : Int)).map V.int := by unfold natsV; rw [List.map_map]; rfl
    rw [en] at hq1 hq2
    refine ⟨.tuple (((seqM pd1 (i + 1)).signs.map fun (j : Nat) => (j : Int)).map PyData.int), .tuple (((seqM pd1 (i + 1)).signs.map fun (j : Nat) => (j : Int)).map PyData.int), .tup (SqT.of hq1) (dp_int1 _), .tup (SqT.of hq2) (dp_int1 _), sh1_tup _, sh1_tup _, ?_⟩
    rw [eqv1_tup]
    repeat walk_at "st"
    refine iteF ?_
    repeat walk_at "st"
    exact ⟨rfl, _, rfl⟩
  · rintro σ H6 ⟨rfl, x7, rfl⟩
    repeat walk_at "st"
    exact k _ ((((s1.trans s2).trans s3).trans s4).trans s5)
end
end Sw

/-! Tokens with other gaps. -/
namespace Sw
open PySem L2
def sp_l_placed (K : PySem.W.Frag) (a : Adr) : Sp := fun vs H Q _ => ∃ (D l : Addr) (ws : List Str), vs = [.ref D, .ref l] ∧ DAt H D ∧ H l = some (.lst (ws.map V.str)) ∧ ws.length ≤ 9000 ∧ (ws.map (·.length)).sum ≤ 9000 ∧
  ∀ (H' : Hp) (q pl : Addr) (z : Str), Keep D H H' → DAt H' D → H' q = some (.tup [.ref pl, .str z]) → Spaced ws z → Q (.ref q) H'
theorem r_splE {te : TE} {σ : St} {H : Hp} {Q : VK} (p : V → Hp → Prop) (h : ∀ Q' : VK, (∀ v H', p v H' → Q' v H') → te σ H Q') (q : ∀ v H', p v H' → Q v H') : te σ H Q := h Q q
theorem sep3 : ∀ r : Nat, r < 3 → ∃ s : Str, ([V.str " ", V.str "  ", V.str "\n"] : List V)[r]? = some (.str s) ∧ s ∈ SEP4 ∧ s.length ≤ 2
  | 0, _ => ⟨" ", rfl, by decide +kernel, by decide +kernel⟩
  | 1, _ => ⟨"  ", rfl, by decide +kernel, by decide +kernel⟩
  | 2, _ => ⟨"\n", rfl, by decide +kernel, by decide +kernel⟩
  | n + 3, h => by omega
theorem strs_ne {H : Hp} {D x : Addr} {zs : List Str} (d : DAt H D) (e : H x = some (.lst (zs.map V.str))) : x ≠ D := d.ne e (by
  intro s c r z
  have e2 := HO.lst.inj z
  cases zs with
  | nil => cases e2
  | cons z zr => cases e2)
theorem new_ne {H : Hp} {D x : Addr} (d : DAt H D) (n : H x = none) : x ≠ D := fun z => by obtain ⟨_, _, _, _, e⟩ := d; rw [z, e] at n; cases n
section
variable {P : Program} {w : World} {K : PySem.W.Frag} {mg : Str → Option Value} {base : Heap} {a : Adr}
theorem ok_l_placed {f : Addr} {fd : FuncData} (F : Fun K "_law_placed" "_law_placed" s_l_placed f fd) (T : Txt w K mg a)
    {f_l_below : Addr} {fd_l_below : FuncData} (G_l_below : Cal P w K mg base "_law_below" 1 f_l_below fd_l_below ps_l_below (sp_l_below K a)) :
    FnOk P w K mg base CX0 2 f fd ps_l_placed (sp_l_placed K a) := by
  refine F.ok sc_l_placed (fun vs H Q E h => ?_) (fun cdv A outer s H vs Q E hr h => ?_)
  · obtain ⟨D, l, ws, rfl, d0, hl, hw1, hw2, k⟩ := h
    rfl
  obtain ⟨D, l, ws, rfl, d0, hl, hw1, hw2, k⟩ := h
  have hu := hu_of hr
  refine ⟨_, 
    (pss_cons (ps_asg (pe_tup (pa_cons (pe_lst pa_nil) (pa_cons pe_str (pa_cons pe_int (pa_cons pe_int pa_nil))))) (pg_tup rfl (pgs_cons (pg_name (i := 2) sc_l_placed.nd rfl (.inl rfl)) (pgs_cons (pg_name (i := 3) sc_l_placed.nd rfl (.inl rfl)) (pgs_cons (pg_name (i := 4) sc_l_placed.nd rfl (.inl rfl)) (pgs_cons (pg_name (i := 5) sc_l_placed.nd rfl (.inl rfl)) pgs_nil)))))) 
    (pss_cons (ps_for PassesOwn.never rfl (pi_list (pv 1)) (pg_name (i := 6) sc_l_placed.nd rfl (.inl rfl)) 
      (pss_cons (ps_set (i := 7) sc_l_placed.nd rfl (.inl rfl) (pe_ix ix_list (pe_lst (pa_cons pe_str (pa_cons pe_str (pa_cons pe_str pa_nil)))) (pe_call G_l_below.ok (hr.mono (by decide)) rfl G_l_below.mg' G_l_below.kp G_l_below.b .nil pass0 (pa_cons (pv 0) (pa_cons pe_int pa_nil))) (fun _ _ => rfl))) 
      (pss_cons (ps_set (i := 3) sc_l_placed.nd rfl (.inl rfl) (pe_op op_add_str (pv 3) (pv 7))) 
      (pss_cons (ps_asg (pe_ifExp (pt_cmpR op_eq (pv 7) pe_str (nomark _)) (pe_tup (pa_cons (pe_op op_add (pv 4) pe_int) (pa_cons pe_int pa_nil))) (pe_tup (pa_cons (pv 4) (pa_cons (pe_op op_add (pv 5) (pe_callB call_len_str (by rfl) T.n_len PySem.boot_len (pa_cons (pv 7) pa_nil))) pa_nil)))) (pg_tup rfl (pgs_cons (pg_name (i := 4) sc_l_placed.nd rfl (.inl rfl)) (pgs_cons (pg_name (i := 5) sc_l_placed.nd rfl (.inl rfl)) pgs_nil)))) 
      (pss_cons (ps_expr (pe_bm PySem.F.plainAttrs_list PySem.F.slot_list_append PySem.F.type_list_append mt_append (pv 2) (pa_cons (pe_tup (pa_cons (pv 4) (pa_cons (pv 5) pa_nil))) pa_nil))) 
      (pss_one (ps_par (i := 3) (j := 5) rfl sc_l_placed.nd rfl rfl (by decide) rfl rfl (pa_cons (pe_op op_add_str (pv 3) (pv 6)) (pa_cons (pe_op op_add (pv 5) (pe_callB call_len_str (by rfl) T.n_len PySem.boot_len (pa_cons (pv 6) pa_nil))) pa_nil)) (by rfl)))))))) 
    (pss_one (ps_ret (pe_tup (pa_cons (pv 2) (pa_cons (pv 3) pa_nil))))))), ?_⟩
  have szl : sizeLine = 16777216 := by decide
  have hlD := strs_ne d0 hl
  repeat walk_at "st"
  refine ⟨by show 0 ≤ sizeLine; omega, fun pl npl => ?_⟩
  have npD := new_ne d0 npl
  have s1 : Same H (upd H pl (.lst [])) := Same.new npl
  have g1 : (upd H pl (.lst [])) pl = some (.lst []) := upd_same
  generalize upd H pl (.lst []) = H1 at s1 g1 ⊢
  repeat walk_at "st"
  refine ⟨by show 4 ≤ sizeLine; omega, fun tp ntp => ?_⟩
  have s2 : Same H1 (upd H1 tp (.tup [.ref pl, .str "", .int 0, .int 0])) := Same.new ntp
  have t2 : (upd H1 tp (.tup [.ref pl, .str "", .int 0, .int 0])) tp = some (.tup [.ref pl, .str "", .int 0, .int 0]) := upd_same
  have g2 := s2 _ _ g1
  generalize upd H1 tp (.tup [.ref pl, .str "", .int 0, .int 0]) = H2 at s2 t2 g2 ⊢
  refine r_gTup (SqT.of t2) rfl ?_
  have sD := (Less_same (L := D) (H := H)).trans (s1.trans s2)
  have nF : Less D H pl = none := by unfold Less; rw [if_neg npD]; exact npl
  have hlF := Less_at hl hlD
  repeat walk_at "st"
  refine r_itL (SqL.of ((s1.trans s2) _ _ hl)) ?_
  refine for_list (xs := ws.map V.str) (fun i σ H3 => DAt H3 D ∧ Same (Less D H) H3 ∧ ∃ (xs : List V) (z : Str) (n m : Int) (x6 x7 : Option V), H3 pl = some (.lst xs) ∧ xs.length = i ∧ Spaced (ws.take i) z ∧ z.length ≤ 2 * i + ((ws.take i).map (·.length)).sum ∧
    σ = [some (.ref D), some (.ref l), some (.ref pl), some (.str z), some (.int n), some (.int m), x6, x7]) ⟨d0.same (s1.trans s2), sD, [], "", 0, 0, _, _, g2, rfl, .nil, Nat.zero_le _, rfl⟩ ?_ ?_ ?_
  · rintro i σ H3 _ ⟨_, s3, _⟩
    exact SqL.of (s3 _ _ hlF)
  · rintro i x σ H3 hx ⟨d3, s3, xs, z, n, m, x6, x7, g3, hxl, hsp, hzl, rfl⟩
    rw [List.getElem?_map] at hx
    cases hq : ws[i]? with
    | none => rw [hq] at hx; cases hx
    | some y =>
      rw [hq] at hx
      cases hx
      have hi := (List.getElem?_eq_some_iff.mp hq).1
      have etk : ws.take (i + 1) = ws.take i ++ [y] := by rw [List.take_add_one, hq]; rfl
      have hsum : ((ws.take (i + 1)).map (·.length)).sum ≤ (ws.map (·.length)).sum := by
        conv => rhs; rw [← List.take_append_drop (i + 1) ws, List.map_append, List.sum_append]
        omega
      rw [etk, List.map_append, List.sum_append] at hsum
      have hy : ([y].map (·.length)).sum = y.length := by simp
      rw [hy] at hsum
      repeat walk_at "st"
      refine ⟨by show 3 ≤ sizeLine; omega, fun q5 n5 => ?_⟩
      have n5D := new_ne d3 n5
      have s4 : Same H3 (upd H3 q5 (.lst [.str " ", .str "  ", .str "\n"])) := Same.new n5
      have g4 : (upd H3 q5 (.lst [.str " ", .str "  ", .str "\n"])) q5 = some (.lst [.str " ", .str "  ", .str "\n"]) := upd_same
      generalize upd H3 q5 (.lst [.str " ", .str "  ", .str "\n"]) = H4 at s4 g4 ⊢
      repeat walk_at "st"
      refine ⟨D, 3, rfl, d3.same s4, by decide, by decide, fun r H5 hr kp5 d5 => ?_⟩
      have s5 := kp_from (s3.trans s4) Less_none kp5
      have g5 := kp5 _ _ (s4 _ _ g3) npD
      obtain ⟨s, hs1, hs2, hs3⟩ := sep3 r (by omega)
      refine r_ixL (SqL.of (kp5 _ _ g4 n5D)) (nat_at hs1) ?_
      repeat walk_at "st"
      refine r_str2 (by omega) ?_
      repeat ((fail_if_success refine r_ifE ?_); walk_at "st")
      refine r_splE (fun v H' => ∃ (q : Addr) (n m : Int), v = .ref q ∧ Same H5 H' ∧ H' q = some (.tup [.int n, .int m])) (fun Q' hq' => ?_) (fun v H6 hv => ?_)
      · refine r_ifE ?_
        repeat walk_at "ni"
        refine ite2 (fun _ => ?_) fun _ => ?_
        · repeat walk_at "st"
          exact ⟨by show 2 ≤ sizeLine; omega, fun tq ntq => hq' _ _ ⟨tq, _, _, rfl, Same.new ntq, upd_same⟩⟩
        · repeat walk_at "st"
          exact ⟨by show 2 ≤ sizeLine; omega, fun tq ntq => hq' _ _ ⟨tq, _, _, rfl, Same.new ntq, upd_same⟩⟩
      obtain ⟨tq, n', m', rfl, s6, ht6⟩ := hv
      refine r_gTup (SqT.of ht6) rfl ?_
      have g6 := s6 _ _ g5
      repeat walk_at "st"
      refine r_tyL (SqL.of g6) ?_
      repeat walk_at "st"
      refine ⟨by show 2 ≤ sizeLine; omega, fun uq nuq => ?_⟩
      have s7 : Same H6 (upd H6 uq (.tup [.int n', .int m'])) := Same.new nuq
      generalize upd H6 uq (.tup [.int n', .int m']) = H7 at s7 ⊢
      have g7 := s7 _ _ g6
      repeat walk_at "st"
      refine r_app g7 (by omega) ?_
      repeat walk_at "st"
      have s8 : Same (Less D H) (upd H7 pl (.lst (xs ++ [.ref uq]))) := Same.mut ((s5.trans s6).trans s7) nF
      have d8 : DAt (upd H7 pl (.lst (xs ++ [.ref uq]))) D := by
        obtain ⟨s, c, r, h, e⟩ := (d5.same s6).same s7
        exact ⟨s, c, r, h, upd_kept e npD.symm⟩
      refine r_str2 (by simp only [slen_app]; omega) ?_
      repeat walk_at "st"
      refine ⟨d8, s8, _, (z ++ s) ++ y, _, _, _, _, upd_same, by rw [List.length_append, hxl]; rfl, ?_, ?_, rfl⟩
      · rw [etk]
        exact .snoc hsp hs2
      · rw [etk, List.map_append, List.sum_append, hy]
        simp only [slen_app]
        omega
  · rintro σ H3 ⟨d3, s3, xs, z, n, m, x6, x7, g3, hxl, hsp, hzl, rfl⟩
    rw [List.length_map, List.take_length] at hsp
    repeat walk_at "st"
    refine ⟨by show 2 ≤ sizeLine; omega, fun q nq => ?_⟩
    have s4 : Same H3 (upd H3 q (.tup [.ref pl, .str z])) := Same.new nq
    exact k _ q pl z (fun b o e nb => s4 _ _ (s3 _ _ (Less_at e nb))) (d3.same s4) upd_same hsp
end
end Sw

/-! The statement's own run: texts of one plan. -/
namespace Sw
open PySem L2
def spLaw (K : PySem.W.Frag) : Sp := fun vs H Q _ => ∃ (l : Addr) (ns : List Int), vs = [.ref l] ∧ SqL K H l (ns.map V.int) ∧ ns.length ≤ 63 ∧ ∀ H', Q (.bl true) H'
def sp_law (K : PySem.W.Frag) (a : Adr) : Sp := spLaw K
theorem sh1_lst (l : List Int) : SeqAt.shaped (.list (l.map PyData.int)) = true := by
  simp [SeqAt.shaped, PyData.canLay0, PyData.depth, sh1_can l, sh1_dep]
theorem eqv1_lst (l : List Int) : PyData.eqv (.list (l.map PyData.int)) (.list (l.map PyData.int)) = true := eqva1 l
theorem law_words {p : LP} (G : GoodLP 16 p) {ws : List Str} (h : ws = Txt.words (Txt.replace (Txt.join "\n" (lawL p)) ";" " ;")) : ws.length ≤ 7000 ∧ (ws.map (·.length)).sum ≤ 7000 := by
  have tx := law_tx G
  have hw := words_of2 tx (semi_text G)
  rw [h, hw]
  have b2 := tx_sum tx
  have b3 := tx_len tx
  have b4 := text_len2 G
  rw [show (Txt.join "\n" (lawL p)).length = (tl (Txt.join "\n" (lawL p))).length from TL.len_tl _] at b4
  exact ⟨by omega, by omega⟩
theorem r_replC {to : TE} {y z : Str} {σ : St} {H : Hp} {Q : VK} (h : to σ H fun v H1 => ∃ x, v = .str x ∧ x.length + (x.length + 1) * z.length ≤ 16777216 ∧ Q (.str (Txt.replace x y z)) H1) : CwR.tReplC to y z σ H Q := h
theorem less_kp {H H' : Hp} {D : Addr} (kp : Keep D H H') : Same (Less D H) H' := kp_from Less_same Less_none kp
theorem lpD {H : Hp} {A : LA} {p : LP} {D : Addr} (h : LPAt H A p) (d : DAt H D) : LPAt (Less D H) A p := by
  obtain ⟨qs, h1, h2⟩ := h.rb
  obtain ⟨kvs, h3, h4⟩ := h.ru
  have hn : ∀ {x xs}, H x = some (.tup xs) → x ≠ D := fun e => tup_ne d e
  have hr : A.ru ≠ D := d.ne h3 (by intro _ _ _ z; cases z)
  exact ⟨Less_at h.q (hn h.q), Less_at h.sg (hn h.sg), Less_at h.md (hn h.md), Less_at h.fl (hn h.fl), ⟨qs, Less_at h1 (hn h1), Paired.mapP h2 fun _ _ e => Less_at e (hn e)⟩,
    ⟨kvs, Less_at h3 hr, Paired.mapP h4 fun _ _ e => ⟨e.1, let ⟨q, e1, e2⟩ := e.2; ⟨q, e1, Less_at e2 (hn e2)⟩⟩⟩⟩
theorem strAt {l : List Str} {i : Nat} {x : V} (h : (l.map V.str)[i]? = some x) : ∃ z, l[i]? = some z ∧ x = .str z := by
  rw [List.getElem?_map] at h
  cases hq : l[i]? with
  | none => rw [hq] at h; cases h
  | some z => rw [hq] at h; exact ⟨z, rfl, (Option.some.inj h).symm⟩
theorem filtStep {α : Type} {l : List α} {f : α → Bool} {i : Nat} {z : α} (h : l[i]? = some z) : (l.take (i + 1)).filter f = (l.take i).filter f ++ if f z = true then [z] else [] := by
  rw [List.take_add_one, h, List.filter_append]
  congr 1
  show [z].filter f = _
  cases e : f z <;> simp [e]
theorem cutV_from' (l : List V) (n : Nat) : cutV l (some (n : Int)) none = l.drop n := by
  unfold cutV
  rw [HT.sIx_none, HT.sIx_nat]
  rcases Nat.le_total n l.length with h | h
  · rw [Nat.min_eq_left h, List.take_of_length_le (by rw [List.length_drop]; omega)]
  · rw [Nat.min_eq_right h, Nat.sub_self, List.take_zero, List.drop_eq_nil_of_le h]
theorem eqv_ints_eq : ∀ l m : List Int, PyData.eqvAll (l.map PyData.int) (m.map PyData.int) = decide (l = m)
  | [], [] => by simp [PyData.eqvAll]
  | [], _ :: _ => by simp [PyData.eqvAll]
  | _ :: _, [] => by simp [PyData.eqvAll]
  | x :: l, y :: m => by
    show (PyData.eqv (.int x) (.int y) && PyData.eqvAll (l.map PyData.int) (m.map PyData.int)) = _
    rw [eqv_ints_eq l m]
    have h : PyData.eqv (.int x) (.int y) = decide (x = y) := by
      rw [Bool.eq_iff_iff, decide_eq_true_iff]
      exact beq_iff_eq
    rw [h, Bool.eq_iff_iff, Bool.and_eq_true, decide_eq_true_iff, decide_eq_true_iff, decide_eq_true_iff, List.cons.injEq]
theorem eqv_ints_lst (l m : List Int) : PyData.eqv (.list (l.map PyData.int)) (.list (m.map PyData.int)) = decide (l = m) := eqv_ints_eq l m
def rtD (pd : PlanD) (r : RobD) : PyData := .tuple [.int r.1, .str (SIDESs.getD r.2.1 Str.empty), .str (pd.moods.getD r.2.2 Str.empty)]
theorem getD_ok {l : List Str} (h : ∀ z ∈ l, PyData.strOk z = true) (i : Nat) : PyData.strOk (l.getD i Str.empty) = true := by
  rw [List.getD_eq_getElem?_getD]
  cases q : l[i]? with
  | none => decide +kernel
  | some z => exact h z (List.mem_of_getElem? q)
theorem rt_can {pd : PlanD} (hm : ∀ z ∈ pd.moods, PyData.strOk z = true) : ∀ l : List RobD, PyData.canLayAll0 (l.map (rtD pd)) = true
  | [] => rfl
  | r :: l => by
    have h1 := getD_ok (l := SIDESs) (by decide +kernel) r.2.1
    have h2 := getD_ok hm r.2.2
    rw [List.map_cons]
    unfold rtD
    simp only [PyData.canLayAll0, PyData.canLay0, h1, h2, Bool.and_true, Bool.true_and]
    exact rt_can hm l
theorem rt_dep (pd : PlanD) : ∀ l : List RobD, PyData.depthAll (l.map (rtD pd)) ≤ 1
  | [] => Nat.zero_le _
  | r :: l => by
    have := rt_dep pd l
    rw [List.map_cons, PyData.depthAll]
    refine Nat.max_le.mpr ⟨?_, this⟩
    unfold rtD
    simp [PyData.depth, PyData.depthAll]
theorem rt_shaped {pd : PlanD} (hm : ∀ z ∈ pd.moods, PyData.strOk z = true) (l : List RobD) : SeqAt.shaped (.list (l.map (rtD pd))) = true := by
  have := rt_dep pd l
  refine Bool.and_eq_true_iff.mpr ⟨by simp [PyData.canLay0, rt_can hm l], decide_eq_true ?_⟩
  rw [PyData.depth]
  omega
theorem rt_dp {K : PySem.W.Frag} {H : Hp} {pd : PlanD} : ∀ {ps : List Addr} {l : List RobD}, Paired (RtAt pd H) ps l → DpAll K H (ps.map V.ref) (l.map (rtD pd))
  | _, _, .nil => .nil
  | _, _, .cons h t => .cons (.tup (SqT.of h) (.cons (.int _) (.cons (.str _) (.cons (.str _) .nil)))) (rt_dp t)
theorem rt_refl (pd : PlanD) : ∀ l : List RobD, PyData.eqvAll (l.map (rtD pd)) (l.map (rtD pd)) = true
  | [] => rfl
  | r :: l => by
    rw [List.map_cons, PyData.eqvAll, rt_refl pd l]
    unfold rtD
    simp [PyData.eqv, PyData.eqvAll]
theorem rt_md {pd pd' : PlanD} (h : pd.moods = pd'.moods) : rtD pd = rtD pd' := by
  funext r
  unfold rtD
  rw [h]
theorem cutV_last (l : List V) (x : V) : cutV (l ++ [x]) none (some (-1)) = l := by
  unfold cutV
  have e : HT.sIx (l ++ [x]).length (l ++ [x]).length (some (-1)) = l.length := by
    rw [List.length_append, show ([x] : List V).length = 1 from rfl]
    simp only [HT.sIx, show (-1 : Int) < 0 from by decide, if_true]
    omega
  rw [e, HT.sIx_none, List.drop_zero, Nat.sub_zero, List.take_left]
section
variable {P : Program} {w : World} {K : PySem.W.Frag} {mg : Str → Option Value} {base : Heap} {a : Adr}
theorem ok_law {f : Addr} {fd : FuncData} (F : Fun K "law" "law" s_law f fd) (T : Txt w K mg a)
    {f_l_random : Addr} {fd_l_random : FuncData} (G_l_random : Cal P w K mg base "_law_random" 1 f_l_random fd_l_random ps_l_random (sp_l_random K a))
    {f_l_plan : Addr} {fd_l_plan : FuncData} (G_l_plan : Cal P w K mg base "_law_plan" 3 f_l_plan fd_l_plan ps_l_plan (sp_l_plan K a))
    {f_l_lines : Addr} {fd_l_lines : FuncData} (G_l_lines : Cal P w K mg base "_law_lines" 1 f_l_lines fd_l_lines ps_l_lines (sp_l_lines K a))
    {f_l_text : Addr} {fd_l_text : FuncData} (G_l_text : Cal P w K mg base "_law_text" 2 f_l_text fd_l_text ps_l_text (sp_l_text K a))
    {f_l_placed : Addr} {fd_l_placed : FuncData} (G_l_placed : Cal P w K mg base "_law_placed" 2 f_l_placed fd_l_placed ps_l_placed (sp_l_placed K a))
    {f_l_below : Addr} {fd_l_below : FuncData} (G_l_below : Cal P w K mg base "_law_below" 1 f_l_below fd_l_below ps_l_below (sp_l_below K a))
    {f_l_shuffled : Addr} {fd_l_shuffled : FuncData} (G_l_shuffled : Cal P w K mg base "_law_shuffled" 2 f_l_shuffled fd_l_shuffled ps_l_shuffled (sp_l_shuffled K a))
    {f_decode : Addr} {fd_decode : FuncData} (G_decode : Cal P w K mg base "decode" 5 f_decode fd_decode ps_decode (sp_decode K a))
    {f_encode : Addr} {fd_encode : FuncData} (G_encode : Cal P w K mg base "encode" 12 f_encode fd_encode ps_encode (sp_encode K a))
    {f_format_plan : Addr} {fd_format_plan : FuncData} (G_format_plan : Cal P w K mg base "format_plan" 12 f_format_plan fd_format_plan ps_format_plan (sp_format_plan K a))
    {f_signs_of : Addr} {fd_signs_of : FuncData} (G_signs_of : Cal P w K mg base "signs_of" 12 f_signs_of fd_signs_of ps_signs_of (sp_signs_of K a))
    {f_l_short : Addr} {fd_l_short : FuncData} (G_l_short : Cal P w K mg base "_law_short" 4 f_l_short fd_l_short ps_l_short (sp_l_short K a))
    {f_robots_in : Addr} {fd_robots_in : FuncData} (G_robots_in : Cal P w K mg base "robots_in" 12 f_robots_in fd_robots_in ps_robots_in (sp_robots_in K a))
    {f_first_difference : Addr} {fd_first_difference : FuncData} (G_first_difference : Cal P w K mg base "first_difference" 12 f_first_difference fd_first_difference ps_first_difference (sp_first_difference K a)) :
    FnOk P w K mg base CX0 13 f fd ps_law (sp_law K a) := by
  refine F.ok sc_law (fun vs H Q E h => ?_) (fun cdv A outer s H vs Q E hr h => ?_)
  · obtain ⟨l, ns, rfl, hl, hn, k⟩ := h
    rfl
  obtain ⟨l, ns, rfl, hl, hn, k⟩ := h
  have hu := hu_of hr
  refine ⟨_, 
    (pss_setk (i := 1) sc_law.nd rfl (.inr rfl) (pkt_call G_l_random.ok (hr.mono (by decide)) rfl G_l_random.mg' G_l_random.kp G_l_random.b .nil pass0 (pak_int (pv 0))) 
    (psst_cons (PST.of (ps_set (i := 2) sc_law.nd rfl (.inr rfl) (pe_call G_l_plan.ok (hr.mono (by decide)) rfl G_l_plan.mg' G_l_plan.kp G_l_plan.b .nil pass0 (pa_cons (pv 1) (pa_cons pe_int pa_nil))))) 
    (psst_cons (PST.of (ps_par (i := 3) (j := 4) rfl sc_law.nd rfl rfl (by decide) rfl rfl (pa_cons (pe_call G_l_text.ok (hr.mono (by decide)) rfl G_l_text.mg' G_l_text.kp G_l_text.b .nil pass0 (pa_cons (pv 2) pa_nil)) (pa_cons (pe_call G_l_lines.ok (hr.mono (by decide)) rfl G_l_lines.mg' G_l_lines.kp G_l_lines.b .nil pass0 (pa_cons (pv 2) pa_nil)) pa_nil)) (by rfl))) 
    (psst_cons (pst_set (i := 5) sc_law.nd rfl (.inl rfl) (pet_ix ix_tup (pet_call G_l_placed.ok (hr.mono (by decide)) rfl G_l_placed.mg' G_l_placed.kp G_l_placed.b .nil pass0 (pat_cons (PET.of' (pv 1)) (pat_cons (pet_words (CwR.pet_replC (pv 3))) pat_nil))) pe_int (fun _ _ => rfl))) 
    (psst_cons (PST.of (ps_setLc (i := 6) (own := [("_law_k", 16)]) rfl sc_law.nd rfl rfl (sw_true rfl rfl rfl (by decide +kernel)) (pi_range1 (by rfl) T.n_range (pa_cons (pe_callB call_len_seq (by rfl) T.n_len PySem.boot_len (pa_cons (pe_ix ix_tup (pv 2) pe_int (fun _ _ => rfl)) pa_nil)) pa_nil)) (blkOk_by (own := [("_law_k", 16)]) (N := nm_law) (sc := defScope s_law) (by decide +kernel)) (fun _ _ _ _ _ => pg_name (i := 16) sc_law.nd rfl (.inl rfl)) (fun _ _ _ _ _ => pts_one (pt_cmpR op_eq (pe_ix (show IxR _ (rIxT K) from ix_tup) (pe_ix (show IxR _ (rIxT K) from ix_tup) (pv 2) pe_int (fun _ _ => rfl)) (pv 16) (fun _ _ => rfl)) pe_int (nomark _))) (fun _ _ _ _ _ => (pv 16)))) 
    (psst_cons (PST.of (ps_setLc (i := 7) (own := [("_law_tile", 17)]) rfl sc_law.nd rfl rfl (sw_true rfl rfl rfl (by decide +kernel)) (pi_list (pv 6)) (blkOk_by (own := [("_law_tile", 17)]) (N := nm_law) (sc := defScope s_law) (by decide +kernel)) (fun _ _ _ _ _ => pg_name (i := 17) sc_law.nd rfl (.inl rfl)) (fun _ _ _ _ _ => pts_one (pt_cmpR op_eq (pe_call G_l_below.ok (hr.mono (by decide)) rfl G_l_below.mg' G_l_below.kp G_l_below.b .nil pass0 (pa_cons (pv 1) (pa_cons pe_int pa_nil))) pe_int (nomark _))) (fun _ _ _ _ _ => (pe_op op_add_str (pe_op op_add_str (pe_op op_add_str (pe_op op_add_str pe_str (pe_ix (show IxR _ (rIxT K) from ix_tup) (pe_ix (show IxR _ (rIxT K) from ix_tup) (pv 2) pe_int (fun _ _ => rfl)) pe_int (fun _ _ => rfl))) pe_str) (pe_callTy call_str_int (by rfl) T.n_str (by decide +kernel) (pa_cons (pv 17) pa_nil))) pe_str)))) 
    (psst_cons (PST.of (ps_set (i := 8) sc_law.nd rfl (.inl rfl) (pe_call G_l_shuffled.ok (hr.mono (by decide)) rfl G_l_shuffled.mg' G_l_shuffled.kp G_l_shuffled.b .nil pass0 (pa_cons (pv 1) (pa_cons (pe_op op_cat (pe_lc (own := [("_law_line", 18)]) rfl sc_law.nd (pi_list (pe_slice sl_list (pv 4) (po_some pe_int) po_none)) (blkOk_by (own := [("_law_line", 18)]) (N := nm_law) (sc := defScope s_law) (by decide +kernel)) (fun _ _ _ _ _ => pg_name (i := 18) sc_law.nd rfl (.inl rfl)) (fun _ _ _ _ _ => pts_one (pt_cmpR op_ne (pe_slice sl_str (pv 18) po_none (po_some pe_int)) pe_str (nomark _))) (fun _ _ _ _ _ => (pv 18))) (pv 7)) pa_nil))))) 
    (psst_cons (PST.of (ps_setLc (i := 9) (own := [("_law_line", 18)]) rfl sc_law.nd rfl rfl (sw_true rfl rfl rfl (by decide +kernel)) (pi_list (pe_slice sl_list (pv 4) (po_some pe_int) po_none)) (blkOk_by (own := [("_law_line", 18)]) (N := nm_law) (sc := defScope s_law) (by decide +kernel)) (fun _ _ _ _ _ => pg_name (i := 18) sc_law.nd rfl (.inl rfl)) (fun _ _ _ _ _ => pts_one (pt_cmpR op_eq (pe_slice sl_str (pv 18) po_none (po_some pe_int)) pe_str (nomark _))) (fun _ _ _ _ _ => (pv 18)))) 
    (psst_cons (PST.of (ps_set (i := 10) sc_law.nd rfl (.inl rfl) (pe_join pe_str (pe_op op_cat (pe_op op_cat (pe_op op_cat (pe_slice sl_list (pv 4) po_none (po_some pe_int)) (pe_slice sl_list (pv 9) po_none (po_some pe_int))) (pv 8)) (pe_slice sl_list (pv 9) (po_some pe_int) po_none))))) 
    (psst_cons (PST.of (ps_for PassesOwn.never rfl (pi_tup (pe_tup (pa_cons (pv 5) (pa_cons (pv 10) pa_nil)))) (pg_name (i := 11) sc_law.nd rfl (.inl rfl)) 
      (pss_cons (ps_if (PW.pt (pw_or (pt_cmpR op_ne (pe_call G_format_plan.ok (hr.mono (by decide)) rfl G_format_plan.mg' G_format_plan.kp G_format_plan.b .nil pass0 (pa_cons (pv 11) pa_nil)) (pv 3) (nomark _)) (pw_or (pt_cmpR (op_neD hr.units) (pe_call G_encode.ok (hr.mono (by decide)) rfl G_encode.mg' G_encode.kp G_encode.b .nil pass0 (pa_cons (pv 11) pa_nil)) (pe_call G_encode.ok (hr.mono (by decide)) rfl G_encode.mg' G_encode.kp G_encode.b .nil pass0 (pa_cons (pv 3) pa_nil)) (nomark _)) (pw_or1 (pt_cmpR op_ne (pe_call G_decode.ok (hr.mono (by decide)) rfl G_decode.mg' G_decode.kp G_decode.b .nil pass0 (pa_cons (pe_call G_encode.ok (hr.mono (by decide)) rfl G_encode.mg' G_encode.kp G_encode.b .nil pass0 (pa_cons (pv 11) pa_nil)) pa_nil)) (pv 3) (nomark _)))))) 
        (pss_one (ps_ret pe_bl)) pss_nil) 
      (pss_one (ps_if (pt_cmpR (op_neD hr.units) (pe_call G_signs_of.ok (hr.mono (by decide)) rfl G_signs_of.mg' G_signs_of.kp G_signs_of.b .nil pass0 (pa_cons (pv 11) pa_nil)) (pe_callTy call_list_of (by rfl) T.n_list (by decide +kernel) (pa_cons (pe_ix ix_tup (pv 2) pe_int (fun _ _ => rfl)) pa_nil)) (nomark _)) 
        (pss_one (ps_ret pe_bl)) pss_nil))))) 
    (psst_cons (PST.of (ps_if (PW.pt (pw_or (pt_cmpR op_ne (pe_call G_format_plan.ok (hr.mono (by decide)) rfl G_format_plan.mg' G_format_plan.kp G_format_plan.b .nil pass0 (pa_cons (pe_call G_format_plan.ok (hr.mono (by decide)) rfl G_format_plan.mg' G_format_plan.kp G_format_plan.b .nil pass0 (pa_cons (pv 3) pa_nil)) pa_nil)) (pv 3) (nomark _)) (pw_or1 (pt_cmpR op_ne (pe_call G_format_plan.ok (hr.mono (by decide)) rfl G_format_plan.mg' G_format_plan.kp G_format_plan.b .nil pass0 (pa_cons (pe_call G_decode.ok (hr.mono (by decide)) rfl G_decode.mg' G_decode.kp G_decode.b .nil pass0 (pa_cons (pe_call G_encode.ok (hr.mono (by decide)) rfl G_encode.mg' G_encode.kp G_encode.b .nil pass0 (pa_cons (pv 3) pa_nil)) pa_nil)) pa_nil)) (pv 3) (nomark _))))) 
      (pss_one (ps_ret pe_bl)) pss_nil)) 
    (psst_cons (PST.of (ps_set (i := 12) sc_law.nd rfl (.inl rfl) (pe_call G_l_text.ok (hr.mono (by decide)) rfl G_l_text.mg' G_l_text.kp G_l_text.b .nil pass0 (pa_cons (pe_call G_l_plan.ok (hr.mono (by decide)) rfl G_l_plan.mg' G_l_plan.kp G_l_plan.b .nil pass0 (pa_cons (pv 1) (pa_cons pe_int pa_nil))) pa_nil)))) 
    (psst_cons (PST.of (ps_if (PW.pt (pw_or (pt_cmpR op_ne (pe_cmpR (op_eqD hr.units) (pe_call G_encode.ok (hr.mono (by decide)) rfl G_encode.mg' G_encode.kp G_encode.b .nil pass0 (pa_cons (pv 12) pa_nil)) (pe_call G_encode.ok (hr.mono (by decide)) rfl G_encode.mg' G_encode.kp G_encode.b .nil pass0 (pa_cons (pv 3) pa_nil)) (nomark _)) (pe_cmpR op_eq (pv 12) (pv 3) (nomark _)) (nomark _)) (pw_or1 (pt_cmpR op_ne (pe_call G_decode.ok (hr.mono (by decide)) rfl G_decode.mg' G_decode.kp G_decode.b .nil pass0 (pa_cons (pe_call G_encode.ok (hr.mono (by decide)) rfl G_encode.mg' G_encode.kp G_encode.b .nil pass0 (pa_cons (pv 12) pa_nil)) pa_nil)) (pv 12) (nomark _))))) 
      (pss_one (ps_ret pe_bl)) pss_nil)) 
    (psst_cons (PST.of (ps_set (i := 13) sc_law.nd rfl (.inl rfl) (pe_call G_l_short.ok (hr.mono (by decide)) rfl G_l_short.mg' G_l_short.kp G_l_short.b .nil pass0 (pa_cons (pv 1) (pa_cons pe_int pa_nil))))) 
    (psst_cons (pst_set (i := 14) sc_law.nd rfl (.inl rfl) (pet_lst (pat_cons (PET.of' (pe_call G_l_text.ok (hr.mono (by decide)) rfl G_l_text.mg' G_l_text.kp G_l_text.b .nil pass0 (pa_cons (pv 13) pa_nil))) (pat_cons (pet_ix ix_tup (pet_call G_l_placed.ok (hr.mono (by decide)) rfl G_l_placed.mg' G_l_placed.kp G_l_placed.b .nil pass0 (pat_cons (PET.of' (pv 1)) (pat_cons (pet_words (CwR.pet_replC (pe_call G_l_text.ok (hr.mono (by decide)) rfl G_l_text.mg' G_l_text.kp G_l_text.b .nil pass0 (pa_cons (pv 13) pa_nil)))) pat_nil))) pe_int (fun _ _ => rfl)) pat_nil)))) 
    (psst_cons (PST.of (ps_if (PW.pt (pw_or (pt_cmpR op_notN (pe_call G_first_difference.ok (hr.mono (by decide)) rfl G_first_difference.mg' G_first_difference.kp G_first_difference.b .nil pass0 (pa_cons (pe_ix ix_list (pv 14) pe_int (fun _ _ => rfl)) (pa_cons (pe_ix ix_list (pv 14) pe_int (fun _ _ => rfl)) pa_nil))) pe_non (nomark _)) (pw_or1 (pt_cmpR (op_neD hr.units) (pe_call G_robots_in.ok (hr.mono (by decide)) rfl G_robots_in.mg' G_robots_in.kp G_robots_in.b .nil pass0 (pa_cons (pe_ix ix_list (pv 14) pe_int (fun _ _ => rfl)) (pa_cons pe_int pa_nil))) (pe_call G_robots_in.ok (hr.mono (by decide)) rfl G_robots_in.mg' G_robots_in.kp G_robots_in.b .nil pass0 (pa_cons (pe_ix ix_list (pv 14) pe_int (fun _ _ => rfl)) (pa_cons pe_int pa_nil))) (nomark _))))) 
      (pss_one (ps_ret pe_bl)) pss_nil)) 
    (psst_cons (PST.of (ps_set (i := 15) sc_law.nd rfl (.inl rfl) (pe_call G_encode.ok (hr.mono (by decide)) rfl G_encode.mg' G_encode.kp G_encode.b .nil pass0 (pa_cons (pv 3) pa_nil)))) 
    (CwR.psst_one (PST.of (ps_ret (pe_and (pe_cmpR op_eq (pe_op op_mod (pe_callTy call_int1 (by rfl) T.n_int (by decide +kernel) (pa_cons (pe_callB (cr_sum rfl) (by rfl) T.n_sum (by decide +kernel) (pa_cons (pe_slice sl_list (pv 15) po_none (po_some (pe_un un_neg pe_int))) pa_nil)) pa_nil)) pe_int) (pe_ix ix_list (pv 15) (pe_un un_neg pe_int) (fun _ _ => rfl)) (nomark _)) (pe_one (pe_cmpR (op_eqD hr.units) (pe_slice sl_list (pv 15) po_none (po_some pe_int)) (pe_lst (pa_cons pe_int (pa_cons (pe_callB call_len_seq (by rfl) T.n_len PySem.boot_len (pa_cons (pe_ix ix_tup (pv 2) pe_int (fun _ _ => rfl)) pa_nil)) pa_nil))) (nomark _)))))))))))))))))))))))), ?_⟩
  have szl : sizeLine = 16777216 := by decide
  have b3 : ("\n" : Str).length = 1 := by decide +kernel
  have b2 : (" ;" : Str).length = 2 := by decide +kernel
  repeat walk_at "st"
  refine ⟨l, ns, 36, rfl, hl, hn, fun H0 D s0 d0 nD => ?_⟩
  repeat walk_at "st"
  refine ⟨D, 16, rfl, d0, by decide, by decide, fun H1 A p G hA kp1 d1 => ?_⟩
  obtain ⟨pd, ts, ss, hgood, hlike⟩ := good_text G
  have f1 := G.f1
  have s1' := G.s1
  have r1 := G.r1
  have hlc := lawL_count G
  have hls := sum_le _ (lawL_small G)
  obtain ⟨T0, hT0⟩ : ∃ T0, T0 = Txt.join "\n" (lawL p) := ⟨_, rfl⟩
  have htl : T0.length ≤ 7000 := by rw [hT0]; exact text_len2 G
  rw [← hT0] at hgood
  repeat walk_at "st"
  refine ⟨A, p, rfl, hA, G, fun H2 s2 => ?_⟩
  repeat walk_at "st"
  refine ⟨A, p, rfl, hA.same s2, G, fun H3 ln s3 nln hln => ?_⟩
  rw [← hT0]
  have hA3 := (hA.same s2).same s3
  have d3 := (d1.same s2).same s3
  repeat walk_at "st"
  refine r_replC ?_
  repeat walk_at "st"
  refine ⟨by rw [b2]; omega, ?_⟩
  have hrep := TK.replace_len T0 ";" " ;"
  rw [b2] at hrep
  obtain ⟨ws, hws⟩ : ∃ ws, ws = Txt.words (Txt.replace T0 ";" " ;") := ⟨_, rfl⟩
  have hwb := law_words G (hws.trans (by rw [hT0]))
  repeat walk_at "st"
  refine ⟨rfl, by omega, ?_⟩
  rw [← hws]
  intro wl nwl
  have s4 : Same H3 (upd H3 wl (.lst (ws.map V.str))) := Same.new nwl
  have g4 : (upd H3 wl (.lst (ws.map V.str))) wl = some (.lst (ws.map V.str)) := upd_same
  generalize upd H3 wl (.lst (ws.map V.str)) = H4 at s4 g4 ⊢
  repeat walk_at "st"
  refine ⟨D, wl, ws, rfl, d3.same s4, g4, by omega, by omega, fun H5 pq pl z kp5 d5 hpq hsp => ?_⟩
  have hzg : ∃ pd ts ss, Good z pd ts ss ∧ Like p pd := good_spaced G (by rw [← hT0, ← hws]; exact hsp)
  -- what stays: all but D
  have d4 := d3.same s4
  have nlnD : ln ≠ D := strs_ne d3 hln
  have hAF : LPAt (Less D H4) A p := lpD (hA3.same s4) d4
  have hlnF : Less D H4 ln = some (.lst ((lawL p).map V.str)) := Less_at (s4 _ _ hln) nlnD
  have nF : Less D H4 D = none := Less_none
  have s5 : Same (Less D H4) H5 := less_kp kp5
  generalize Less D H4 = F at hAF hlnF nF s5
  clear kp5 hsp
  refine r_ixT (SqT.of hpq) (nat_at (i := 1) rfl) ?_
  repeat walk_at "st"
  refine r_lc ?_
  repeat walk_at "st"
  have hAF5 := hAF.same s5
  refine r_ixT (SqT.of hAF5.q) (nat_at (i := 2) rfl) ?_
  repeat walk_at "st"
  refine r_lenL (.inr (SqT.of hAF5.fl)) ?_
  repeat walk_at "st"
  rw [List.length_map]
  refine ⟨_, rfl, by omega, by omega, fun bl nbl => ?_⟩
  rw [Int.toNat_natCast]
  refine lc_range (n := p.fl.length) (fun i H8 => Same H5 H8 ∧ H8 bl = some (.lst (((List.range i).filter fun k => decide (p.fl.getD k 0 = 0)).map fun (k : Nat) => V.int (k : Int)))) ⟨Same.new nbl, upd_same⟩ ?_ ?_
  · rintro i H8 hi8 ⟨s8, g8⟩
    have hb : ((List.range i).filter fun k => decide (p.fl.getD k 0 = 0)).length ≤ i := Nat.le_trans (List.length_filter_le _ _) (by rw [List.length_range]; exact Nat.le_refl _)
    rw [show (0 : Int) + (i : Int) = (i : Int) by omega]
    refine r_gname ?_
    refine ⟨rfl, ?_⟩
    repeat walk_at "st"
    refine r_ixT (SqT.of (s8 _ _ hAF5.q)) (nat_at (i := 2) rfl) ?_
    repeat walk_at "st"
    refine r_ixT (SqT.of (s8 _ _ hAF5.fl)) (nat_at (fl_map hi8)) ?_
    repeat walk_at "st"
    rw [dec_int]
    refine ite_b (p := p.fl.getD i 0 = 0) (by by_cases h : p.fl.getD i 0 = 0 <;> simp [h]) (fun hf => ?_) fun hf => ?_
    · repeat walk_at "st"
      refine ⟨_, g8, by rw [List.length_map]; omega, Same.mut s8 nbl, ?_⟩
      rw [upd_same, List.range_succ, List.filter_append, List.map_append]
      simp only [List.filter_cons, List.filter_nil, hf, decide_true, if_true, List.map_cons, List.map_nil]
    · refine ⟨s8, ?_⟩
      rw [g8, List.range_succ, List.filter_append, List.map_append]
      simp only [List.filter_cons, List.filter_nil, hf, decide_false, if_false, List.map_nil, List.append_nil, Bool.false_eq_true]
  rintro H6 ⟨s6, g6⟩
  obtain ⟨Z, hZ⟩ : ∃ Z : List Nat, Z = (List.range p.fl.length).filter fun k => decide (p.fl.getD k 0 = 0) := ⟨_, rfl⟩
  rw [← hZ] at g6
  have hZn : Z.Nodup := by rw [hZ]; exact List.nodup_range.filter _
  have hZz : ∀ k ∈ Z, k < p.fl.length ∧ p.fl.getD k 0 = 0 := fun k hk => by
    rw [hZ] at hk
    obtain ⟨h1, h2⟩ := List.mem_filter.mp hk
    exact ⟨List.mem_range.mp h1, of_decide_eq_true h2⟩
  have d6 := d5.same s6
  have sF6 := s5.trans s6
  repeat walk_at "st"
  have nblD : bl ≠ D := fun e => by rw [e] at nbl; obtain ⟨_, _, _, _, q⟩ := d5; rw [q] at nbl; cases nbl
  obtain ⟨F2, hF2⟩ : ∃ F2, F2 = Less D H6 := ⟨_, rfl⟩
  have nF2 : F2 D = none := by rw [hF2]; exact Less_none
  have sF2 : Same F2 H6 := by rw [hF2]; exact Less_same
  have sFF : Same F F2 := by rw [hF2]; exact Less_from sF6 nF
  have gZ : F2 bl = some (.lst (Z.map fun (k : Nat) => V.int (k : Int))) := by rw [hF2]; exact Less_at g6 nblD
  have hA2 := hAF.same sFF
  have hln2 := sFF _ _ hlnF
  clear hF2 sF6 s6 s5 hAF5
  have hb0 : (p.sg.getD 0 Str.empty).length ≤ 8 := getD_len (sg_len G) (by omega)
  obtain ⟨z1, z2, z3, z4, z5, z6, z7, z8, z9, z10, z11⟩ := lits2
  have hZl : Z.length ≤ 16 := Nat.le_trans (php p.fl.length Z hZn fun k hk => (hZz k hk).1) f1.2
  refine r_lc ?_
  repeat walk_at "st"
  refine r_itL (SqL.of g6) ?_
  intro ml nml
  have nmlF : F2 ml = none := none_back sF2 nml
  have nmlD : ml ≠ D := new_ne d6 nml
  refine lc_list (xs := Z.map fun (k : Nat) => V.int (k : Int)) (fun i HC => ∃ KZ : List Nat, KZ.Sublist (Z.take i) ∧ DAt HC D ∧ Same F2 HC ∧ HC ml = some (.lst ((KZ.map (zput p)).map V.str))) ⟨[], List.Sublist.slnil, d6.same (Same.new nml), sF2.trans (Same.new nml), upd_same⟩ ?_ ?_ ?_
  · rintro i HC _ ⟨KZ, _, _, sC, _⟩
    exact SqL.of (sC _ _ gZ)
  · rintro i x HC hx ⟨KZ, hKs, dC, sC, gC⟩
    rw [List.getElem?_map] at hx
    cases hq : Z[i]? with
    | none => rw [hq] at hx; cases hx
    | some c =>
      rw [hq] at hx
      cases hx
      have hc := (hZz c (List.mem_of_getElem? hq)).1
      have n2 : (Str.ofString (toString (c : Int))).length ≤ 2 := nS_small _ (by omega) (by omega)
      have hKl : KZ.length ≤ 16 := by
        have := hKs.length_le
        rw [List.length_take] at this
        omega
      have etk : Z.take (i + 1) = Z.take i ++ [c] := by rw [List.take_add_one, hq]; rfl
      refine r_gname ?_
      refine ⟨rfl, ?_⟩
      repeat walk_at "st"
      refine ⟨D, 2, rfl, dC, by decide, by decide, fun r HD hr kpD dD => ?_⟩
      have sD := kp_from sC nF2 kpD
      have gD := kpD _ _ gC nmlD
      repeat walk_at "ni"
      refine ite2 (fun _ => ?_) fun _ => ?_
      · repeat walk_at "st"
        refine r_ixT (SqT.of (sD _ _ hA2.q)) (nat_at (i := 0) rfl) ?_
        repeat walk_at "st"
        refine r_ixT (SqT.of (sD _ _ hA2.sg)) (nat_at (i := 0) (map_getD (by omega))) ?_
        refine r_str2 (by omega) ?_
        repeat walk_at "st"
        refine r_str2 (by simp only [slen_app]; omega) ?_
        repeat walk_at "st"
        refine r_strI (log_small (by omega) (by omega)) ?_
        refine r_str2 (by simp only [slen_app]; omega) ?_
        repeat walk_at "st"
        refine r_str2 (by simp only [slen_app]; omega) ?_
        have dE : DAt (upd HD ml (.lst ((KZ.map (zput p)).map V.str ++ [.str (zput p c)]))) D := by
          obtain ⟨s, c, r, h, e⟩ := dD
          exact ⟨s, c, r, h, upd_kept e nmlD.symm⟩
        refine ⟨_, gD, by rw [List.length_map, List.length_map]; omega, KZ ++ [c], by rw [etk]; exact hKs.append (List.Sublist.refl _), dE, Same.mut sD nmlF, ?_⟩
        rw [upd_same, List.map_append, List.map_append]
        rfl
      · exact ⟨KZ, by rw [etk]; exact hKs.trans (List.sublist_append_left _ _), dD, sD, gD⟩
  rintro H7 ⟨KZ, hKs, d7, s7, g7⟩
  rw [List.length_map, List.take_length] at hKs
  have hKn : KZ.Nodup := hKs.nodup hZn
  have hKz : ∀ k ∈ KZ, k < p.fl.length ∧ p.fl.getD k 0 = 0 := fun k hk => hZz k (hKs.subset hk)
  have hKl : KZ.length ≤ 16 := Nat.le_trans hKs.length_le hZl
  clear gZ g6 hKs
  repeat walk_at "st"
  refine r_lc ?_
  repeat walk_at "st"
  refine r_slL (SqL.of (s7 _ _ hln2)) fun sl nsl => ?_
  rw [show (3 : Int) = ((3 : Nat) : Int) from rfl, cutV_from', ← List.map_drop]
  have s8 : Same H7 (upd H7 sl (.lst (((lawL p).drop 3).map V.str))) := Same.new nsl
  have e8 : (upd H7 sl (.lst (((lawL p).drop 3).map V.str))) sl = some (.lst (((lawL p).drop 3).map V.str)) := upd_same
  generalize upd H7 sl (.lst (((lawL p).drop 3).map V.str)) = H8 at s8 e8 ⊢
  refine r_itL (SqL.of e8) ?_
  intro r2 nr2
  refine lc_list (xs := ((lawL p).drop 3).map V.str) (fun i H7 => Same H8 H7 ∧ H7 r2 = some (.lst (((((lawL p).drop 3).take i).filter fun z => !isR5 z).map V.str))) ⟨Same.new nr2, upd_same⟩ ?_ ?_ ?_
  · rintro i H7 _ ⟨s7, _⟩
    exact SqL.of (s7 _ _ e8)
  · rintro i x H7 hx ⟨s7, g7⟩
    obtain ⟨z, hz, rfl⟩ := strAt hx
    have hzl := lawL_small G z (List.mem_of_mem_drop (List.mem_of_getElem? hz))
    have hb := List.length_filter_le (fun z => !isR5 z) (((lawL p).drop 3).take i)
    rw [List.length_take, List.length_drop] at hb
    refine r_gname ?_
    refine ⟨rfl, ?_⟩
    repeat walk_at "st"
    rw [dec_str]
    refine ite_b (p := (!isR5 z) = true) (by unfold isR5; simp) (fun hf => ?_) fun hf => ?_
    · repeat walk_at "st"
      refine ⟨_, g7, by rw [List.length_map]; omega, Same.mut s7 nr2, ?_⟩
      rw [upd_same, filtStep hz, hf, if_pos rfl, List.map_append]
      rfl
    · refine ⟨s7, ?_⟩
      rw [filtStep hz, if_neg hf, List.append_nil]
      exact g7
  rintro H9 ⟨s9, g9⟩
  rw [List.length_map, List.take_length, oth5] at g9
  have s79 := s8.trans s9
  have hol : ((putA p ++ ruA p).map (abLine p)).length ≤ 34 := by
    rw [← oth5]
    exact Nat.le_trans (List.length_filter_le _ _) (by rw [List.length_drop]; omega)
  repeat walk_at "st"
  refine ⟨r2, ml, _, _, rfl, rfl, g9, s79 _ _ g7, by simp only [List.length_map] at hol ⊢; omega, fun r5 nr5 => ?_⟩
  have ezp : KZ.map (zput p) = (zK KZ).map (abLine p) := by unfold zK; rw [List.map_map]; rfl
  rw [ezp, ← List.map_append, ← List.map_append]
  have s10 : Same H9 (upd H9 r5 (.lst (((putA p ++ ruA p ++ zK KZ).map (abLine p)).map V.str))) := Same.new nr5
  have e10 : (upd H9 r5 (.lst (((putA p ++ ruA p ++ zK KZ).map (abLine p)).map V.str))) r5 = some (.lst (((putA p ++ ruA p ++ zK KZ).map (abLine p)).map V.str)) := upd_same
  generalize upd H9 r5 (.lst (((putA p ++ ruA p ++ zK KZ).map (abLine p)).map V.str)) = H10 at s10 e10 ⊢
  repeat walk_at "st"
  have d10 := (d7.same s79).same s10
  have hzKl : (zK KZ).length ≤ 16 := by unfold zK; rw [List.length_map]; exact hKl
  rw [List.length_map] at hol
  refine ⟨D, r5, _, rfl, d10, e10, by rw [List.length_map, List.length_append]; omega, fun z hz => ?_, fun H11 q1 ys1 hp1 kp11 d11 nq1 e11 => ?_⟩
  · rw [List.map_append] at hz
    rcases List.mem_append.mp hz with h | h
    · rw [← othL_eq] at h
      exact loose_ok G z (List.mem_append_left _ (List.mem_append_left _ h))
    · rw [← ezp] at h
      obtain ⟨k, hk, rfl⟩ := List.mem_map.mp h
      exact put_ok G (by omega) (hKz k hk).1
  have sF11 : Same F2 H11 := kp_from ((s7.trans s79).trans s10) nF2 kp11
  obtain ⟨los, hlos1, hlos2⟩ := perm_map hp1 rfl
  repeat walk_at "st"
  refine r_lc ?_
  repeat walk_at "st"
  refine r_slL (SqL.of (sF11 _ _ hln2)) fun sl2 nsl2 => ?_
  rw [cutV_from', ← List.map_drop]
  have s12 : Same H11 (upd H11 sl2 (.lst (((lawL p).drop 3).map V.str))) := Same.new nsl2
  have e12 : (upd H11 sl2 (.lst (((lawL p).drop 3).map V.str))) sl2 = some (.lst (((lawL p).drop 3).map V.str)) := upd_same
  generalize upd H11 sl2 (.lst (((lawL p).drop 3).map V.str)) = H12 at s12 e12 ⊢
  refine r_itL (SqL.of e12) ?_
  intro rl nrl
  refine lc_list (xs := ((lawL p).drop 3).map V.str) (fun i H7 => Same H12 H7 ∧ H7 rl = some (.lst (((((lawL p).drop 3).take i).filter isR5).map V.str))) ⟨Same.new nrl, upd_same⟩ ?_ ?_ ?_
  · rintro i H7 _ ⟨s7, _⟩
    exact SqL.of (s7 _ _ e12)
  · rintro i x H7 hx ⟨s7, g7⟩
    obtain ⟨z, hz, rfl⟩ := strAt hx
    have hzl := lawL_small G z (List.mem_of_mem_drop (List.mem_of_getElem? hz))
    have hb := List.length_filter_le isR5 (((lawL p).drop 3).take i)
    rw [List.length_take, List.length_drop] at hb
    refine r_gname ?_
    refine ⟨rfl, ?_⟩
    repeat walk_at "st"
    rw [dec_str]
    refine ite_b (p := isR5 z = true) (by unfold isR5; simp) (fun hf => ?_) fun hf => ?_
    · repeat walk_at "st"
      refine ⟨_, g7, by rw [List.length_map]; omega, Same.mut s7 nrl, ?_⟩
      rw [upd_same, filtStep hz, hf, if_pos rfl, List.map_append]
      rfl
    · refine ⟨s7, ?_⟩
      rw [filtStep hz, if_neg hf, List.append_nil]
      exact g7
  rintro H13 ⟨s13, g13⟩
  rw [List.length_map, List.take_length, rob5] at g13
  obtain ⟨x0, rr, hr⟩ : ∃ x r, p.rb = x :: r := by
    cases hr : p.rb with
    | nil => rw [hr] at r1; exact absurd r1.1 (by decide)
    | cons x r => exact ⟨x, r, rfl⟩
  obtain ⟨rs, hrs⟩ : ∃ rs : List Ab, rs = rr.map fun r => .rob r.1 r.2 := ⟨_, rfl⟩
  have hrob : robA p = Ab.rob x0.1 x0.2 :: rs := by unfold robA; rw [hr, hrs]; rfl
  obtain ⟨pd2, ts2, ss2, hgood2, hlike2⟩ := good_mixed G hKn hKz hlos1 hrob
  have hrsl : rs.length ≤ 2 := by
    have := r1.2
    rw [hr, List.length_cons] at this
    rw [hrs, List.length_map]
    omega
  have hlosl := hlos1.length_eq
  rw [List.length_append] at hlosl
  have s1113 := s12.trans s13
  have sF13 := sF11.trans s1113
  have eq13 := s1113 _ _ e11
  rw [hlos2] at eq13
  repeat walk_at "st"
  refine r_slL (SqL.of (sF13 _ _ hln2)) fun u1 nu1 => ?_
  rw [show cutV ((lawL p).map V.str) none (some ((3 : Nat) : Int)) = ((lawL p).take 3).map V.str from by rw [List.map_take]; exact cutV_to _ 3, head_eq]
  have sU1 : Same H13 (upd H13 u1 (.lst ((headL p).map V.str))) := Same.new nu1
  have eU1 : (upd H13 u1 (.lst ((headL p).map V.str))) u1 = some (.lst ((headL p).map V.str)) := upd_same
  generalize upd H13 u1 (.lst ((headL p).map V.str)) = HU1 at sU1 eU1 ⊢
  repeat walk_at "st"
  refine r_slL (SqL.of (sU1 _ _ g13)) fun u2 nu2 => ?_
  rw [show cutV (((robA p).map (abLine p)).map V.str) none (some 1) = ([abLine p (Ab.rob x0.1 x0.2)]).map V.str from by rw [show (some (1 : Int)) = some ((1 : Nat) : Int) from rfl, cutV_to, ← List.map_take, hrob]; rfl]
  have sU2 : Same HU1 (upd HU1 u2 (.lst ([abLine p (Ab.rob x0.1 x0.2)].map V.str))) := Same.new nu2
  have eU2 : (upd HU1 u2 (.lst ([abLine p (Ab.rob x0.1 x0.2)].map V.str))) u2 = some (.lst ([abLine p (Ab.rob x0.1 x0.2)].map V.str)) := upd_same
  generalize upd HU1 u2 (.lst ([abLine p (Ab.rob x0.1 x0.2)].map V.str)) = HU2 at sU2 eU2 ⊢
  have hhl : (headL p).length = 3 := rfl
  refine ⟨u1, u2, _, _, rfl, rfl, sU2 _ _ eU1, eU2, by rw [List.length_map, List.length_map, hhl]; show 3 + 1 ≤ _; omega, fun u3 nu3 => ?_⟩
  rw [← List.map_append]
  have sU3 : Same HU2 (upd HU2 u3 (.lst ((headL p ++ [abLine p (Ab.rob x0.1 x0.2)]).map V.str))) := Same.new nu3
  have eU3 : (upd HU2 u3 (.lst ((headL p ++ [abLine p (Ab.rob x0.1 x0.2)]).map V.str))) u3 = some (.lst ((headL p ++ [abLine p (Ab.rob x0.1 x0.2)]).map V.str)) := upd_same
  generalize upd HU2 u3 (.lst ((headL p ++ [abLine p (Ab.rob x0.1 x0.2)]).map V.str)) = HU3 at sU3 eU3 ⊢
  have sU := (sU1.trans sU2).trans sU3
  repeat walk_at "st"
  refine ⟨u3, q1, _, _, rfl, rfl, eU3, sU _ _ eq13, by rw [List.length_map, List.length_map, List.length_map, List.length_append, hhl]; show 3 + 1 + _ ≤ _; omega, fun u4 nu4 => ?_⟩
  rw [← List.map_append]
  have sU4 : Same HU3 (upd HU3 u4 (.lst ((headL p ++ [abLine p (Ab.rob x0.1 x0.2)] ++ los.map (abLine p)).map V.str))) := Same.new nu4
  have eU4 : (upd HU3 u4 (.lst ((headL p ++ [abLine p (Ab.rob x0.1 x0.2)] ++ los.map (abLine p)).map V.str))) u4 = some (.lst ((headL p ++ [abLine p (Ab.rob x0.1 x0.2)] ++ los.map (abLine p)).map V.str)) := upd_same
  generalize upd HU3 u4 (.lst ((headL p ++ [abLine p (Ab.rob x0.1 x0.2)] ++ los.map (abLine p)).map V.str)) = HU4 at sU4 eU4 ⊢
  have sV := sU.trans sU4
  repeat walk_at "st"
  refine r_slL (SqL.of (sV _ _ g13)) fun u5 nu5 => ?_
  rw [show cutV (((robA p).map (abLine p)).map V.str) (some 1) none = (rs.map (abLine p)).map V.str from by rw [show (some (1 : Int)) = some ((1 : Nat) : Int) from rfl, cutV_from', hrob]; rfl]
  have sU5 : Same HU4 (upd HU4 u5 (.lst ((rs.map (abLine p)).map V.str))) := Same.new nu5
  have eU5 : (upd HU4 u5 (.lst ((rs.map (abLine p)).map V.str))) u5 = some (.lst ((rs.map (abLine p)).map V.str)) := upd_same
  generalize upd HU4 u5 (.lst ((rs.map (abLine p)).map V.str)) = HU5 at sU5 eU5 ⊢
  refine ⟨u4, u5, _, _, rfl, rfl, sU5 _ _ eU4, eU5, by rw [List.length_map, List.length_map, List.length_map, List.length_append, List.length_append, List.length_map, hhl]; show 3 + 1 + _ + _ ≤ _; omega, fun u6 nu6 => ?_⟩
  rw [← List.map_append]
  obtain ⟨LL, hLL⟩ : ∃ LL, LL = headL p ++ (Ab.rob x0.1 x0.2 :: (los ++ rs)).map (abLine p) := ⟨_, rfl⟩
  have eLL : headL p ++ [abLine p (Ab.rob x0.1 x0.2)] ++ los.map (abLine p) ++ rs.map (abLine p) = LL := by
    rw [hLL, List.map_cons, List.map_append]
    simp [List.append_assoc]
  rw [eLL]
  rw [← hLL] at hgood2
  have hzb := hgood2.tok.1
  have sU6 : Same HU5 (upd HU5 u6 (.lst (LL.map V.str))) := Same.new nu6
  have eU6 : (upd HU5 u6 (.lst (LL.map V.str))) u6 = some (.lst (LL.map V.str)) := upd_same
  generalize upd HU5 u6 (.lst (LL.map V.str)) = HU6 at sU6 eU6 ⊢
  have sF14 := ((sF13.trans sV).trans sU5).trans sU6
  have d14 := (((d11.same s1113).same sV).same sU5).same sU6
  repeat walk_at "st"
  have hab : ∀ a ∈ robA p ++ putA p ++ ruA p, (abLine p a).length ≤ 200 := fun a ha => lawL_small G _ (by rw [lawL_abs]; exact List.mem_append_right _ (List.mem_map_of_mem ha))
  have hLLs : ∀ z ∈ LL, z.length ≤ 200 := fun z hz => by
    rw [hLL] at hz
    rcases List.mem_append.mp hz with hz | hz
    · exact lawL_small G z (by rw [lawL_abs]; exact List.mem_append_left _ hz)
    · obtain ⟨a, ha, rfl⟩ := List.mem_map.mp hz
      rcases List.mem_cons.mp ha with rfl | ha
      · exact hab _ (List.mem_append_left _ (List.mem_append_left _ (by rw [hrob]; exact List.mem_cons_self ..)))
      · rcases List.mem_append.mp ha with h | h
        · rcases List.mem_append.mp (hlos1.mem_iff.mp h) with h | h
          · rcases List.mem_append.mp h with h | h
            · exact hab _ (List.mem_append_left _ (List.mem_append_right _ h))
            · exact hab _ (List.mem_append_right _ h)
          · obtain ⟨kk, hk, rfl⟩ := List.mem_map.mp h
            have n2 := nS_len kk (by have := (hKz kk hk).1; omega)
            have n3 := getD_len (sg_len G) (show 0 < p.sg.length by omega)
            show (lwPutS (p.sg.getD 0 Str.empty) kk).length ≤ 200
            unfold lwPutS
            simp only [slen_app]
            omega
        · exact hab _ (List.mem_append_left _ (List.mem_append_left _ (by rw [hrob]; exact List.mem_cons_of_mem _ h)))
  have hLLl : LL.length ≤ 60 := by
    rw [hLL, List.length_append, List.length_map, List.length_cons, List.length_append, hhl]
    omega
  have hLLsum := sum_le _ hLLs
  refine r_joinL eU6 (by rw [b3]; omega) ?_
  obtain ⟨T2, hT2⟩ : ∃ T2, T2 = Txt.join "\n" LL := ⟨_, rfl⟩
  rw [← hT2] at hgood2
  rw [← hT2]
  clear hLLsum hLLs hLLl eU6 hab
  repeat walk_at "st"
  refine ⟨by show 2 ≤ sizeLine; omega, fun tq ntq => ?_⟩
  have s15 : Same HU6 (upd HU6 tq (.tup [.str z, .str T2])) := Same.new ntq
  have t15 : (upd HU6 tq (.tup [.str z, .str T2])) tq = some (.tup [.str z, .str T2]) := upd_same
  generalize upd HU6 tq (.tup [.str z, .str T2]) = HT at s15 t15 ⊢
  have sFT := sF14.trans s15
  have dT := d14.same s15
  have hAT := hA2.same sFT
  clear sU1 sU2 sU3 sU4 sU5 sU6 eU1 eU2 eU3 eU4 eU5 sV sU
  refine r_itT (SqT.of t15) ?_
  refine for_tup (xs := [.str z, .str T2]) (fun i σ H3 => Same HT H3 ∧ ∃ (x11 x12 x13 x14 x15 x16 x17 x18 : Option V), σ = [some (.ref l), some (.ref D), some (.ref A.q), some (.str T0), some (.ref ln), some (.str z), some (.ref bl), some (.ref ml), some (.ref q1), some (.ref rl), some (.str T2), x11, x12, x13, x14, x15, x16, x17, x18])
    ⟨fun _ _ e => e, _, _, _, _, _, _, _, _, rfl⟩ ?_ ?_ ?_
  · rintro i σ H3 _ ⟨s3, _⟩
    exact SqT.of (s3 _ _ t15)
  · rintro i x σ H3 hx ⟨s3, x11, x12, x13, x14, x15, x16, x17, x18, rfl⟩
    obtain ⟨y, rfl, pdy, tsy, ssy, gy, ly⟩ : ∃ y : Str, x = .str y ∧ ∃ pd ts ss, Good y pd ts ss ∧ Like p pd := by
      match i with
      | 0 => cases hx; exact ⟨z, rfl, hzg⟩
      | 1 => cases hx; exact ⟨T2, rfl, _, _, _, hgood2, hlike2⟩
      | n + 2 => cases hx
    repeat walk_at "st"
    refine r_orT (fun QB q => ?_) ?_
    · repeat walk_at "st"
      refine ⟨y, pdy, tsy, ssy, rfl, gy, like_small G ly, fun H' tz rz s h1 h2 => ?_⟩
      rw [like_canon G ly h1 h2, ← hT0]
      repeat walk_at "ni"
      rw [decide_eq_true rfl]
      exact q _ s
    intro H4 s4
    refine r_orT (fun QB q => ?_) ?_
    · repeat walk_at "st"
      refine ⟨y, pdy, tsy, ssy, p, rfl, gy, G, ly, fun H' q1 s n1 e1 => ?_⟩
      repeat walk_at "st"
      refine ⟨T0, pd, ts, ss, p, rfl, hgood, G, hlike, fun H'' q2 s' n2 e2 => ?_⟩
      refine ⟨.list ((codeB p).map PyData.int), .list ((codeB p).map PyData.int), .lst (SqL.of (s' _ _ e1)) (dp_int1 _), .lst (SqL.of e2) (dp_int1 _), sh1_lst _, sh1_lst _, ?_⟩
      rw [eqv1_lst]
      repeat walk_at "st"
      exact q _ (s.trans s')
    intro H5 s5
    repeat walk_at "st"
    refine ⟨y, pdy, tsy, ssy, p, rfl, gy, G, ly, fun H6 q1 s6 n1 e1 => ?_⟩
    repeat walk_at "st"
    refine ⟨q1, p, rfl, G, e1, fun H7 s7 => ?_⟩
    rw [← hT0]
    repeat walk_at "ni"
    rw [decide_eq_true rfl]
    refine iteF ?_
    repeat walk_at "st"
    refine ⟨y, pdy, tsy, ssy, rfl, gy, fun H8 q8 s8 n8 e8 => ?_⟩
    rw [ly.sg] at e8
    have s38 := (((s4.trans s5).trans s6).trans s7).trans s8
    repeat walk_at "st"
    refine r_ixT (SqT.of ((s3.trans s38) _ _ hAT.q)) (nat_at (i := 0) rfl) ?_
    refine ⟨A.sg, _, rfl, .inr (SqT.of ((s3.trans s38) _ _ hAT.sg)), fun q9 n9 => ?_⟩
    have s9 : Same H8 (upd H8 q9 (.lst (p.sg.map V.str))) := Same.new n9
    have e9 : (upd H8 q9 (.lst (p.sg.map V.str))) q9 = some (.lst (p.sg.map V.str)) := upd_same
    generalize upd H8 q9 (.lst (p.sg.map V.str)) = H9 at s9 e9 ⊢
    refine ⟨.list (p.sg.map PyData.str), .list (p.sg.map PyData.str), .lst (SqL.of (s9 _ _ e8)) (dp_strs _), .lst (SqL.of e9) (dp_strs _), sh_strs _ (sg_ok G), sh_strs _ (sg_ok G), ?_⟩
    rw [eqvs1_lst]
    repeat walk_at "st"
    refine iteF ?_
    repeat walk_at "st"
    exact ⟨(s3.trans s38).trans s9, _, _, _, _, _, _, _, _, rfl⟩
  rintro σ H16 ⟨s16, x11, x12, x13, x14, x15, x16, x17, x18, rfl⟩
  have d16 := dT.same s16
  have hA16 := hAT.same s16
  repeat walk_at "st"
  refine r_orT (fun QB q => ?_) ?_
  · repeat walk_at "st"
    refine ⟨T0, pd, ts, ss, rfl, hgood, like_small G hlike, fun H' tz rz s h1 h2 => ?_⟩
    rw [like_canon G hlike h1 h2, ← hT0]
    repeat walk_at "st"
    refine ⟨T0, pd, ts, ss, rfl, hgood, like_small G hlike, fun H'' tz rz s' h1 h2 => ?_⟩
    rw [like_canon G hlike h1 h2, ← hT0]
    repeat walk_at "ni"
    rw [decide_eq_true rfl]
    exact q _ (s.trans s')
  intro H17 s17
  repeat walk_at "st"
  refine ⟨T0, pd, ts, ss, p, rfl, hgood, G, hlike, fun H18 q2 s18 n2 e2 => ?_⟩
  repeat walk_at "st"
  refine ⟨q2, p, rfl, G, e2, fun H19 s19 => ?_⟩
  rw [← hT0]
  repeat walk_at "st"
  refine ⟨T0, pd, ts, ss, rfl, hgood, like_small G hlike, fun H20 tz rz s20 h1 h2 => ?_⟩
  rw [like_canon G hlike h1 h2, ← hT0]
  repeat walk_at "ni"
  rw [decide_eq_true rfl]
  refine iteF ?_
  have s1620 := ((s17.trans s18).trans s19).trans s20
  have d20 := d16.same s1620
  have hA20 := hA16.same s1620
  have hAF20 := lpD hA20 d20
  repeat walk_at "st"
  refine ⟨D, 16, rfl, d20, by decide, by decide, fun H21 A' p' G' hA' kp21 d21 => ?_⟩
  obtain ⟨pd', ts', ss', hgood', hlike'⟩ := good_text G'
  have hA21 := hAF20.same (less_kp kp21)
  repeat walk_at "st"
  refine ⟨A', p', rfl, hA', G', fun H22 s22 => ?_⟩
  obtain ⟨T1, hT1⟩ : ∃ T1, T1 = Txt.join "\n" (lawL p') := ⟨_, rfl⟩
  rw [← hT1] at hgood' ⊢
  have d22 := d21.same s22
  have hA22 := hA21.same s22
  repeat walk_at "st"
  refine r_orT (fun QB q => ?_) ?_
  · repeat walk_at "st"
    refine ⟨T1, pd', ts', ss', p', rfl, hgood', G', hlike', fun H' q1 s n1 e1 => ?_⟩
    repeat walk_at "st"
    refine ⟨T0, pd, ts, ss, p, rfl, hgood, G, hlike, fun H'' q2 s' n2 e2 => ?_⟩
    refine ⟨.list ((codeB p').map PyData.int), .list ((codeB p).map PyData.int), .lst (SqL.of (s' _ _ e1)) (dp_int1 _), .lst (SqL.of e2) (dp_int1 _), sh1_lst _, sh1_lst _, ?_⟩
    rw [eqv_ints_lst]
    repeat walk_at "st"
    have hx : decide (codeB p' = codeB p) = decide (V.str T1 = V.str T0) := by
      rw [Bool.eq_iff_iff, decide_eq_true_iff, decide_eq_true_iff]
      constructor
      · intro e
        rw [hT1, hT0, code_inj G' G e]
      · intro e
        have e' : T1 = T0 := V.str.inj e
        rw [text_inj G' G (by rw [← hT1, ← hT0]; exact e')]
    rw [hx, decide_eq_true rfl]
    exact q _ (s.trans s')
  intro H23 s23
  repeat walk_at "st"
  refine ⟨T1, pd', ts', ss', p', rfl, hgood', G', hlike', fun H24 q3 s24 n3 e3 => ?_⟩
  repeat walk_at "st"
  refine ⟨q3, p', rfl, G', e3, fun H25 s25 => ?_⟩
  rw [← hT1]
  repeat walk_at "ni"
  rw [decide_eq_true rfl]
  refine iteF ?_
  have s2225 := (s23.trans s24).trans s25
  have d25 := d22.same s2225
  have hA25 := hA22.same s2225
  have hAF25 := lpD hA25 d25
  repeat walk_at "st"
  refine ⟨D, 4, rfl, d25, by decide, by decide, fun H26 B p2 G2 hS2 hB kp26 d26 => ?_⟩
  have G2' : GoodLP 16 p2 := good16 G2 (by decide)
  obtain ⟨pd3, ts3, ss3, hgood3, hlike3⟩ := good_text G2'
  have hA26 := hAF25.same (less_kp kp26)
  repeat walk_at "st"
  refine ⟨B, p2, rfl, hB, G2', fun H27 s27 => ?_⟩
  obtain ⟨T3, hT3⟩ : ∃ T3, T3 = Txt.join "\n" (lawL p2) := ⟨_, rfl⟩
  have htl3 : T3.length ≤ 7000 := by rw [hT3]; exact text_len2 G2'
  rw [← hT3] at hgood3 ⊢
  have d27 := d26.same s27
  have hB27 := hB.same s27
  have hA27 := hA26.same s27
  repeat walk_at "st"
  refine r_replC ?_
  repeat walk_at "st"
  refine ⟨B, p2, rfl, hB27, G2', fun H28 s28 => ?_⟩
  rw [← hT3]
  have d28 := d27.same s28
  have hA28 := hA27.same s28
  repeat walk_at "st"
  refine ⟨by rw [b2]; omega, ?_⟩
  have hrep3 := TK.replace_len T3 ";" " ;"
  rw [b2] at hrep3
  obtain ⟨ws3, hws3⟩ : ∃ ws, ws = Txt.words (Txt.replace T3 ";" " ;") := ⟨_, rfl⟩
  have hwb3 := law_words G2' (hws3.trans (by rw [hT3]))
  repeat walk_at "st"
  refine ⟨rfl, by omega, ?_⟩
  rw [← hws3]
  intro wl3 nwl3
  have s29 : Same H28 (upd H28 wl3 (.lst (ws3.map V.str))) := Same.new nwl3
  have g29 : (upd H28 wl3 (.lst (ws3.map V.str))) wl3 = some (.lst (ws3.map V.str)) := upd_same
  generalize upd H28 wl3 (.lst (ws3.map V.str)) = H29 at s29 g29 ⊢
  have d29 := d28.same s29
  have hA29 := hA28.same s29
  have hAF29 := lpD hA29 d29
  repeat walk_at "st"
  refine ⟨D, wl3, ws3, rfl, d29, g29, by omega, by omega, fun H30 pq3 pl3 z3 kp30 d30 hpq3 hsp3 => ?_⟩
  obtain ⟨pd4, ts4, ss4, hgood4, hlike4⟩ : ∃ pd ts ss, Good z3 pd ts ss ∧ Like p2 pd := good_spaced G2' (by rw [← hT3, ← hws3]; exact hsp3)
  have hA30 := hAF29.same (less_kp kp30)
  repeat walk_at "st"
  refine r_ixT (SqT.of hpq3) (nat_at (i := 1) rfl) ?_
  repeat walk_at "st"
  refine ⟨by show 2 ≤ sizeLine; omega, fun w3 nw3 => ?_⟩
  have s31 : Same H30 (upd H30 w3 (.lst [.str T3, .str z3])) := Same.new nw3
  have e31 : (upd H30 w3 (.lst [.str T3, .str z3])) w3 = some (.lst [.str T3, .str z3]) := upd_same
  generalize upd H30 w3 (.lst [.str T3, .str z3]) = H31 at s31 e31 ⊢
  have hA31 := hA30.same s31
  have told3 : Told T3 pd3 := ⟨⟨ts3, ss3, hgood3⟩, like_fit G2' hlike3, short_early G2' (by decide) hS2 hlike3⟩
  have told4 : Told z3 pd4 := ⟨⟨ts4, ss4, hgood4⟩, like_fit G2' hlike4, short_early G2' (by decide) hS2 hlike4⟩
  have hsq : ∀ n, seqM pd3 n = seqM pd4 n := fun n => by rw [like_seq G2' hlike3, like_seq G2' hlike4]
  have hmd4 : pd4.moods = pd3.moods := by rw [hlike3.md, hlike4.md]
  have hmok : ∀ z ∈ pd3.moods, PyData.strOk z = true := by rw [hlike3.md]; exact md_ok G2'
  repeat walk_at "st"
  refine r_orT (fun QB q => ?_) ?_
  · repeat walk_at "st"
    refine r_ixL (SqL.of e31) (nat_at (i := 0) rfl) ?_
    repeat walk_at "st"
    refine r_ixL (SqL.of e31) (nat_at (i := 1) rfl) ?_
    repeat walk_at "st"
    refine ⟨T3, z3, pd3, pd4, rfl, told3, told4, by rw [hlike3.sz, hlike4.sz], by rw [hlike3.sg, hlike4.sg], by rw [hlike3.sg]; exact sg_ok G2', hsq, fun H' s => ?_⟩
    repeat walk_at "ni"
    rw [decide_eq_true rfl]
    exact q _ s
  intro H32 s32
  repeat walk_at "st"
  refine r_ixL (SqL.of (s32 _ _ e31)) (nat_at (i := 0) rfl) ?_
  repeat walk_at "st"
  refine ⟨T3, pd3, 50, rfl, told3, by decide, fun H33 q33 ps33 s33 n33 e33 hp33 => ?_⟩
  repeat walk_at "st"
  refine r_ixL (SqL.of (s33 _ _ (s32 _ _ e31))) (nat_at (i := 1) rfl) ?_
  repeat walk_at "st"
  refine ⟨z3, pd4, 50, rfl, told4, by decide, fun H34 q34 ps34 s34 n34 e34 hp34 => ?_⟩
  obtain ⟨S, hS⟩ : ∃ S, S = seqM pd3 (50 + 1) := ⟨_, rfl⟩
  rw [← hS] at hp33
  rw [← hsq (50 + 1), ← hS] at hp34
  clear hS
  have hdp4 := rt_dp (K := K) hp34
  rw [rt_md hmd4] at hdp4
  refine ⟨.list (S.robots.map (rtD pd3)), .list (S.robots.map (rtD pd3)), .lst (SqL.of (s34 _ _ e33)) (rt_dp (Paired.mapP hp33 fun _ _ e => s34 _ _ e)), .lst (SqL.of e34) hdp4, rt_shaped hmok _, rt_shaped hmok _, ?_⟩
  rw [show PyData.eqv (.list (S.robots.map (rtD pd3))) (.list (S.robots.map (rtD pd3))) = true from rt_refl pd3 _]
  repeat walk_at "ni"
  refine iteF ?_
  have s3034 := ((s31.trans s32).trans s33).trans s34
  have hA34 := hA30.same s3034
  repeat walk_at "st"
  refine ⟨T0, pd, ts, ss, p, rfl, hgood, G, hlike, fun H35 q35 s35 n35 e35 => ?_⟩
  have hA35 := hA34.same s35
  repeat walk_at "st"
  refine r_andV ?_
  repeat walk_at "st"
  refine r_slL (SqL.of e35) fun q36 n36 => ?_
  rw [show codeB p = bodyB p ++ [(bodyB p).sum % 256] from rfl, List.map_append, show ([(bodyB p).sum % 256] : List Int).map V.int = [V.int ((bodyB p).sum % 256)] from rfl, cutV_last]
  rw [show codeB p = bodyB p ++ [(bodyB p).sum % 256] from rfl, List.map_append, show ([(bodyB p).sum % 256] : List Int).map V.int = [V.int ((bodyB p).sum % 256)] from rfl] at e35
  have s36 : Same H35 (upd H35 q36 (.lst ((bodyB p).map V.int))) := Same.new n36
  have e36 : (upd H35 q36 (.lst ((bodyB p).map V.int))) q36 = some (.lst ((bodyB p).map V.int)) := upd_same
  generalize upd H35 q36 (.lst ((bodyB p).map V.int)) = H36 at s36 e36 ⊢
  repeat walk_at "st"
  refine ⟨q36, bodyB p, rfl, SqL.of e36, ?_⟩
  repeat walk_at "st"
  refine .inl ⟨_, rfl, ?_⟩
  repeat walk_at "st"
  refine r_I (by show (0 : Int) < 256; decide) ?_
  repeat walk_at "st"
  refine r_ixL (SqL.of (s36 _ _ e35)) (atI_last _ _) ?_
  repeat walk_at "ni"
  rw [decide_eq_true rfl]
  refine iteT ?_
  have e35' := s36 _ _ e35
  have hA36 := hA35.same s36
  repeat walk_at "st"
  refine r_slL (SqL.of e35') fun q37 n37 => ?_
  rw [show (some (2 : Int)) = some ((2 : Nat) : Int) from rfl, cutV_to, show ((bodyB p).map V.int ++ [V.int ((bodyB p).sum % 256)]).take 2 = ([82, (p.fl.length : Int)] : List Int).map V.int from rfl]
  have s37 : Same H36 (upd H36 q37 (.lst (([82, (p.fl.length : Int)] : List Int).map V.int))) := Same.new n37
  have e37 : (upd H36 q37 (.lst (([82, (p.fl.length : Int)] : List Int).map V.int))) q37 = some (.lst (([82, (p.fl.length : Int)] : List Int).map V.int)) := upd_same
  generalize upd H36 q37 (.lst (([82, (p.fl.length : Int)] : List Int).map V.int)) = H37 at s37 e37 ⊢
  have hA37 := hA36.same s37
  repeat walk_at "st"
  refine r_ixT (SqT.of hA37.q) (nat_at (i := 2) rfl) ?_
  repeat walk_at "st"
  refine r_lenL (.inr (SqT.of hA37.fl)) ?_
  repeat walk_at "st"
  rw [List.length_map]
  refine ⟨by show 2 ≤ sizeLine; omega, fun q38 n38 => ?_⟩
  have s38 : Same H37 (upd H37 q38 (.lst (([82, (p.fl.length : Int)] : List Int).map V.int))) := Same.new n38
  have e38 : (upd H37 q38 (.lst (([82, (p.fl.length : Int)] : List Int).map V.int))) q38 = some (.lst (([82, (p.fl.length : Int)] : List Int).map V.int)) := upd_same
  refine ⟨.list (([82, (p.fl.length : Int)] : List Int).map PyData.int), .list (([82, (p.fl.length : Int)] : List Int).map PyData.int), .lst (SqL.of (s38 _ _ e37)) (dp_int1 _), .lst (SqL.of e38) (dp_int1 _), sh1_lst _, sh1_lst _, ?_⟩
  rw [eqv1_lst]
  exact k _
end
end Sw

section
open PySem PySem.W PyProof.Rows
set_option maxHeartbeats 0
open_top head36 for PySem.Challenge.rw_sweeprota_k36_whole_texts_of_one_plan
end
open PySem PySem.W PyProof.Rows
namespace Sw
open PySem L2
set_option maxHeartbeats 0 in
theorem all_mk {l : PySem.W.OpenLaw} {w : World} {K : PySem.W.Frag} {h : Heap} {mg : Str → Option Value} {fa f1 f2 f3 f4 f5 f6 f7 f8 f9 f10 f11 f12 f13 f14 f15 f16 f17 f18 f19 f20 f21 f22 f23 f24 f25 f26 f27 f28 f29 f30 f31 f32 f33 f34 f35 f36 f37 f38 f39 f40 f41 f42 f43 f44 f45 f46 f47 f48 f49 f50 f51 f52 f53 f54 f55 f56 f57 f58 f59 f60 f61 f62 f63 f64 f65 f66 f67 f68 f69 C_Token C_Statement C_Reader C_Plan C_Run C_ByteReader p_KEYWORDS p_SIDES p_MOVES p_ADDERS dt46 : Addr}
    {od1 od2 od3 od4 od5 od6 od7 od8 od9 od10 od11 od12 od13 od14 od15 od16 od17 od18 od19 od20 od21 od22 od23 od24 od25 od26 od27 od28 od29 od30 od31 od32 od33 od34 od35 od36 od37 od38 od39 od40 od41 od42 od43 od44 od45 od46 od47 od48 od49 od50 od51 od52 od53 od54 od55 od56 od57 od58 od59 od60 od61 od62 od63 od64 od65 od66 od67 od68 od69 an1 an2 an3 an4 an5 an6 an7 an8 an9 an10 an11 an12 an13 an14 an15 an16 an17 an18 an19 an20 an21 an22 an23 an24 an25 an26 an27 an28 an29 an30 an31 an32 an33 an34 an35 an36 an37 an38 an39 an40 an41 an42 an43 an44 an45 an46 an47 an48 an49 an50 an51 an52 an53 an54 an55 an56 an57 an58 an59 an60 an61 an62 an63 an64 an65 an66 an67 an68 an69 : Option Addr} {sl1 sl2 sl3 sl4 sl5 sl6 sl7 sl8 sl9 sl10 sl11 sl12 sl13 sl14 sl15 sl16 sl17 sl18 sl19 sl20 sl21 sl22 sl23 sl24 sl25 sl26 sl27 sl28 sl29 sl30 sl31 sl32 sl33 sl34 sl35 sl36 sl37 sl38 sl39 sl40 sl41 sl42 sl43 sl44 sl45 sl46 sl47 sl48 sl49 sl50 sl51 sl52 sl53 sl54 sl55 sl56 sl57 sl58 sl59 sl60 sl61 sl62 sl63 sl64 sl65 sl66 sl67 sl68 sl69 sl_KEYWORDS sl_SIDES sl_MOVES dsl46 : Array (Option Value)} {oc1 oc2 oc3 oc4 oc5 oc6 oc7 oc8 oc9 oc10 oc11 oc12 oc13 oc14 oc15 oc16 oc17 oc18 oc19 oc20 oc21 oc22 oc23 oc24 oc25 oc26 oc27 oc28 oc29 oc30 oc31 oc32 oc33 oc34 oc35 oc36 oc37 oc38 oc39 oc40 oc41 oc42 oc43 oc44 oc45 oc46 oc47 oc48 oc49 oc50 oc51 oc52 oc53 oc54 oc55 oc56 oc57 oc58 oc59 oc60 oc61 oc62 oc63 oc64 oc65 oc66 oc67 oc68 oc69 kV1 kV2 kV3 kV4 kV5 kV6 kV7 kV8 kV9 kV10 kV11 kV12 kV13 kV14 kV15 kV16 kV17 kV18 kV19 kV20 kV21 kV22 kV23 kV24 kV25 kV26 kV27 kV28 kV29 kV30 kV31 kV32 kV33 kV34 kV35 kV36 kV37 kV38 kV39 kV40 kV41 kV42 kV43 kV44 kV45 kV46 kV47 kV48 kV49 kV50 kV51 kV52 kV53 kV54 kV55 kV56 kV57 kV58 kV59 kV60 kV61 kV62 kV63 kV64 kV65 kV66 kV67 kV68 kV69 dc1 dc2 dc3 dc4 dc5 dc6 dc7 dc8 dc9 dc10 dc11 dc12 dc13 dc14 dc15 dc16 dc17 dc18 dc19 dc20 dc21 dc22 dc23 dc24 dc25 dc26 dc27 dc28 dc29 dc30 dc31 dc32 dc33 dc34 dc35 dc36 dc37 dc38 dc39 dc40 dc41 dc42 dc43 dc44 dc45 dc46 dc47 dc48 dc49 dc50 dc51 dc52 dc53 dc54 dc55 dc56 dc57 dc58 dc59 dc60 dc61 dc62 dc63 dc64 dc65 dc66 dc67 dc68 dc69 pm1 pm2 pm3 pm4 pm5 pm6 pm7 pm8 pm9 pm10 pm11 pm12 pm13 pm14 pm15 pm16 pm17 pm18 pm19 pm20 pm21 pm22 pm23 pm24 pm25 pm26 pm27 pm28 pm29 pm30 pm31 pm32 pm33 pm34 pm35 pm36 pm37 pm38 pm39 pm40 pm41 pm42 pm43 pm44 pm45 pm46 pm47 pm48 pm49 pm50 pm51 pm52 pm53 pm54 pm55 pm56 pm57 pm58 pm59 pm60 pm61 pm62 pm63 pm64 pm65 pm66 pm67 pm68 pm69 cd1 cd2 cd3 cd4 cd5 cd6 cd7 cd8 cd9 cd10 cd11 cd12 cd13 cd14 cd15 cd16 cd17 cd18 cd19 cd20 cd21 cd22 cd23 cd24 cd25 cd26 cd27 cd28 cd29 cd30 cd31 cd32 cd33 cd34 cd35 cd36 cd37 cd38 cd39 cd40 cd41 cd42 cd43 cd44 cd45 cd46 cd47 cd48 cd49 cd50 cd51 cd52 cd53 cd54 cd55 cd56 cd57 cd58 cd59 cd60 cd61 cd62 cd63 cd64 cd65 cd66 cd67 cd68 cd69 ct1 ct2 ct3 ct4 ct5 ct6 ct7 ct8 ct9 ct10 ct11 ct12 ct13 ct14 ct15 ct16 ct17 ct18 ct19 ct20 ct21 ct22 ct23 ct24 ct25 ct26 ct27 ct28 ct29 ct30 ct31 ct32 ct33 ct34 ct35 ct36 ct37 ct38 ct39 ct40 ct41 ct42 ct43 ct44 ct45 ct46 ct47 ct48 ct49 ct50 ct51 ct52 ct53 ct54 ct55 ct56 ct57 ct58 ct59 ct60 ct61 ct62 ct63 ct64 ct65 ct66 ct67 ct68 ct69 : Value}
    {dk46_0 dk46_1 t_LETTERS t_DIGITS t_KEYWORDS_0 t_KEYWORDS_1 t_KEYWORDS_2 t_KEYWORDS_3 t_KEYWORDS_4 t_KEYWORDS_5 t_KEYWORDS_6 t_KEYWORDS_7 t_KEYWORDS_8 t_KEYWORDS_9 t_KEYWORDS_10 t_KEYWORDS_11 t_LONGEST_WORD t_LONGEST_NUMBER t_MOST_TILES t_MOST_SIGNS t_MOST_MOODS t_MOST_ROBOTS t_SIDES_0 t_SIDES_1 t_MOVES_0 t_MOVES_1 t_MOVES_2 t_LEFT t_BACK t_STAY t_LAST_REPEAT t_LAST_TICK t_MARK t_BYTES : Tok} {n_KEYWORDS n_SIDES n_MOVES n_ADDERS dn46 : Nat} {es_ADDERS : Array DictEntry}
    (X : K.In h) (G : h.Ns mainGlobals mg) (hfa : mg "law" = some (.ref fa))
    (ca_Token : PySem.W.nsIn K mainGlobals "Token" = some (some (.ref C_Token)))
    (pg_Token : PySem.W.plainGet K C_Token Str.empty = true)
    (hd_Token : PySem.W.hasDictIn K C_Token = true)
    (po_Token : PySem.W.plainOver K C_Token = true)
    (sa_Token : PySem.W.findIn K (.ref C_Token) "__setattr__" = some (some (.builtin "object.__setattr__")))
    (mk_Token : PySem.W.makesIn K C_Token = true)
    (kc_Token : PySem.W.keepIn K (.ref C_Token) = true)
    (na_Token_kind : PySem.W.findIn K (.ref C_Token) "kind" = some none)
    (na_Token_text : PySem.W.findIn K (.ref C_Token) "text" = some none)
    (na_Token_line : PySem.W.findIn K (.ref C_Token) "line" = some none)
    (na_Token_column : PySem.W.findIn K (.ref C_Token) "column" = some none)
    (ca_Statement : PySem.W.nsIn K mainGlobals "Statement" = some (some (.ref C_Statement)))
    (pg_Statement : PySem.W.plainGet K C_Statement Str.empty = true)
    (hd_Statement : PySem.W.hasDictIn K C_Statement = true)
    (po_Statement : PySem.W.plainOver K C_Statement = true)
    (sa_Statement : PySem.W.findIn K (.ref C_Statement) "__setattr__" = some (some (.builtin "object.__setattr__")))
    (mk_Statement : PySem.W.makesIn K C_Statement = true)
    (kc_Statement : PySem.W.keepIn K (.ref C_Statement) = true)
    (na_Statement_word : PySem.W.findIn K (.ref C_Statement) "word" = some none)
    (na_Statement_parts : PySem.W.findIn K (.ref C_Statement) "parts" = some none)
    (ca_Reader : PySem.W.nsIn K mainGlobals "Reader" = some (some (.ref C_Reader)))
    (pg_Reader : PySem.W.plainGet K C_Reader Str.empty = true)
    (hd_Reader : PySem.W.hasDictIn K C_Reader = true)
    (po_Reader : PySem.W.plainOver K C_Reader = true)
    (sa_Reader : PySem.W.findIn K (.ref C_Reader) "__setattr__" = some (some (.builtin "object.__setattr__")))
    (mk_Reader : PySem.W.makesIn K C_Reader = true)
    (kc_Reader : PySem.W.keepIn K (.ref C_Reader) = true)
    (na_Reader_tokens : PySem.W.findIn K (.ref C_Reader) "tokens" = some none)
    (na_Reader_lines : PySem.W.findIn K (.ref C_Reader) "lines" = some none)
    (na_Reader_at : PySem.W.findIn K (.ref C_Reader) "at" = some none)
    (ca_Plan : PySem.W.nsIn K mainGlobals "Plan" = some (some (.ref C_Plan)))
    (pg_Plan : PySem.W.plainGet K C_Plan Str.empty = true)
    (hd_Plan : PySem.W.hasDictIn K C_Plan = true)
    (po_Plan : PySem.W.plainOver K C_Plan = true)
    (sa_Plan : PySem.W.findIn K (.ref C_Plan) "__setattr__" = some (some (.builtin "object.__setattr__")))
    (mk_Plan : PySem.W.makesIn K C_Plan = true)
    (kc_Plan : PySem.W.keepIn K (.ref C_Plan) = true)
    (na_Plan_size : PySem.W.findIn K (.ref C_Plan) "size" = some none)
    (na_Plan_signs : PySem.W.findIn K (.ref C_Plan) "signs" = some none)
    (na_Plan_moods : PySem.W.findIn K (.ref C_Plan) "moods" = some none)
    (na_Plan_robots : PySem.W.findIn K (.ref C_Plan) "robots" = some none)
    (na_Plan_puts : PySem.W.findIn K (.ref C_Plan) "puts" = some none)
    (na_Plan_rules : PySem.W.findIn K (.ref C_Plan) "rules" = some none)
    (ca_Run : PySem.W.nsIn K mainGlobals "Run" = some (some (.ref C_Run)))
    (pg_Run : PySem.W.plainGet K C_Run Str.empty = true)
    (hd_Run : PySem.W.hasDictIn K C_Run = true)
    (po_Run : PySem.W.plainOver K C_Run = true)
    (sa_Run : PySem.W.findIn K (.ref C_Run) "__setattr__" = some (some (.builtin "object.__setattr__")))
    (mk_Run : PySem.W.makesIn K C_Run = true)
    (kc_Run : PySem.W.keepIn K (.ref C_Run) = true)
    (na_Run_situations : PySem.W.findIn K (.ref C_Run) "situations" = some none)
    (na_Run_words : PySem.W.findIn K (.ref C_Run) "words" = some none)
    (na_Run_start : PySem.W.findIn K (.ref C_Run) "start" = some none)
    (na_Run_length : PySem.W.findIn K (.ref C_Run) "length" = some none)
    (ca_ByteReader : PySem.W.nsIn K mainGlobals "ByteReader" = some (some (.ref C_ByteReader)))
    (pg_ByteReader : PySem.W.plainGet K C_ByteReader Str.empty = true)
    (hd_ByteReader : PySem.W.hasDictIn K C_ByteReader = true)
    (po_ByteReader : PySem.W.plainOver K C_ByteReader = true)
    (sa_ByteReader : PySem.W.findIn K (.ref C_ByteReader) "__setattr__" = some (some (.builtin "object.__setattr__")))
    (mk_ByteReader : PySem.W.makesIn K C_ByteReader = true)
    (kc_ByteReader : PySem.W.keepIn K (.ref C_ByteReader) = true)
    (na_ByteReader_code : PySem.W.findIn K (.ref C_ByteReader) "code" = some none)
    (na_ByteReader_place : PySem.W.findIn K (.ref C_ByteReader) "place" = some none)
    (a1 : PySem.W.findIn K (.ref C_Token) "__init__" = some (some (.ref f1)))
    (i1 : PySem.W.isFn K (.ref f1) = true)
    (l1 : K.lookup f1 = some ⟨oc1, od1, .func (PySem.W.fnOf "__init__" "Token.__init__" (defArgs s_Token_init) (defBody s_Token_init) (defScope s_Token_init) .none kV1 dc1 pm1 an1 cd1 ct1), sl1⟩)
    (c1 : PySem.W.codeIn K cd1 "Token.__init__" = true)
    (k1 : PySem.W.keepIn K (.ref f1) = true)
    (a2 : PySem.W.nsIn K mainGlobals "tokens_of" = some (some (.ref f2)))
    (l2 : K.lookup f2 = some ⟨oc2, od2, .func (PySem.W.fnOf "tokens_of" "tokens_of" (defArgs s_tokens_of) (defBody s_tokens_of) (defScope s_tokens_of) .none kV2 dc2 pm2 an2 cd2 ct2), sl2⟩)
    (c2 : PySem.W.codeIn K cd2 "tokens_of" = true)
    (k2 : PySem.W.keepIn K (.ref f2) = true)
    (a3 : PySem.W.nsIn K mainGlobals "tokens_in" = some (some (.ref f3)))
    (l3 : K.lookup f3 = some ⟨oc3, od3, .func (PySem.W.fnOf "tokens_in" "tokens_in" (defArgs s_tokens_in) (defBody s_tokens_in) (defScope s_tokens_in) .none kV3 dc3 pm3 an3 cd3 ct3), sl3⟩)
    (c3 : PySem.W.codeIn K cd3 "tokens_in" = true)
    (k3 : PySem.W.keepIn K (.ref f3) = true)
    (a4 : PySem.W.nsIn K mainGlobals "token_end" = some (some (.ref f4)))
    (l4 : K.lookup f4 = some ⟨oc4, od4, .func (PySem.W.fnOf "token_end" "token_end" (defArgs s_token_end) (defBody s_token_end) (defScope s_token_end) .none kV4 dc4 pm4 an4 cd4 ct4), sl4⟩)
    (c4 : PySem.W.codeIn K cd4 "token_end" = true)
    (k4 : PySem.W.keepIn K (.ref f4) = true)
    (a5 : PySem.W.nsIn K mainGlobals "run_end" = some (some (.ref f5)))
    (l5 : K.lookup f5 = some ⟨oc5, od5, .func (PySem.W.fnOf "run_end" "run_end" (defArgs s_run_end) (defBody s_run_end) (defScope s_run_end) .none kV5 dc5 pm5 an5 cd5 ct5), sl5⟩)
    (c5 : PySem.W.codeIn K cd5 "run_end" = true)
    (k5 : PySem.W.keepIn K (.ref f5) = true)
    (a6 : PySem.W.nsIn K mainGlobals "kind_of" = some (some (.ref f6)))
    (l6 : K.lookup f6 = some ⟨oc6, od6, .func (PySem.W.fnOf "kind_of" "kind_of" (defArgs s_kind_of) (defBody s_kind_of) (defScope s_kind_of) .none kV6 dc6 pm6 an6 cd6 ct6), sl6⟩)
    (c6 : PySem.W.codeIn K cd6 "kind_of" = true)
    (k6 : PySem.W.keepIn K (.ref f6) = true)
    (a7 : PySem.W.findIn K (.ref C_Statement) "__init__" = some (some (.ref f7)))
    (i7 : PySem.W.isFn K (.ref f7) = true)
    (l7 : K.lookup f7 = some ⟨oc7, od7, .func (PySem.W.fnOf "__init__" "Statement.__init__" (defArgs s_Statement_init) (defBody s_Statement_init) (defScope s_Statement_init) .none kV7 dc7 pm7 an7 cd7 ct7), sl7⟩)
    (c7 : PySem.W.codeIn K cd7 "Statement.__init__" = true)
    (k7 : PySem.W.keepIn K (.ref f7) = true)
    (a8 : PySem.W.findIn K (.ref C_Reader) "__init__" = some (some (.ref f8)))
    (i8 : PySem.W.isFn K (.ref f8) = true)
    (l8 : K.lookup f8 = some ⟨oc8, od8, .func (PySem.W.fnOf "__init__" "Reader.__init__" (defArgs s_Reader_init) (defBody s_Reader_init) (defScope s_Reader_init) .none kV8 dc8 pm8 an8 cd8 ct8), sl8⟩)
    (c8 : PySem.W.codeIn K cd8 "Reader.__init__" = true)
    (k8 : PySem.W.keepIn K (.ref f8) = true)
    (a9 : PySem.W.findIn K (.ref C_Reader) "ended" = some (some (.ref f9)))
    (i9 : PySem.W.isFn K (.ref f9) = true)
    (l9 : K.lookup f9 = some ⟨oc9, od9, .func (PySem.W.fnOf "ended" "Reader.ended" (defArgs s_Reader_ended) (defBody s_Reader_ended) (defScope s_Reader_ended) .none kV9 dc9 pm9 an9 cd9 ct9), sl9⟩)
    (c9 : PySem.W.codeIn K cd9 "Reader.ended" = true)
    (k9 : PySem.W.keepIn K (.ref f9) = true)
    (a10 : PySem.W.findIn K (.ref C_Reader) "sees" = some (some (.ref f10)))
    (i10 : PySem.W.isFn K (.ref f10) = true)
    (l10 : K.lookup f10 = some ⟨oc10, od10, .func (PySem.W.fnOf "sees" "Reader.sees" (defArgs s_Reader_sees) (defBody s_Reader_sees) (defScope s_Reader_sees) .none kV10 dc10 pm10 an10 cd10 ct10), sl10⟩)
    (c10 : PySem.W.codeIn K cd10 "Reader.sees" = true)
    (k10 : PySem.W.keepIn K (.ref f10) = true)
    (a11 : PySem.W.findIn K (.ref C_Reader) "take" = some (some (.ref f11)))
    (i11 : PySem.W.isFn K (.ref f11) = true)
    (l11 : K.lookup f11 = some ⟨oc11, od11, .func (PySem.W.fnOf "take" "Reader.take" (defArgs s_Reader_take) (defBody s_Reader_take) (defScope s_Reader_take) .none kV11 dc11 pm11 an11 cd11 ct11), sl11⟩)
    (c11 : PySem.W.codeIn K cd11 "Reader.take" = true)
    (k11 : PySem.W.keepIn K (.ref f11) = true)
    (a12 : PySem.W.nsIn K mainGlobals "parse" = some (some (.ref f12)))
    (l12 : K.lookup f12 = some ⟨oc12, od12, .func (PySem.W.fnOf "parse" "parse" (defArgs s_parse) (defBody s_parse) (defScope s_parse) .none kV12 dc12 pm12 an12 cd12 ct12), sl12⟩)
    (c12 : PySem.W.codeIn K cd12 "parse" = true)
    (k12 : PySem.W.keepIn K (.ref f12) = true)
    (a13 : PySem.W.nsIn K mainGlobals "read_corridor" = some (some (.ref f13)))
    (l13 : K.lookup f13 = some ⟨oc13, od13, .func (PySem.W.fnOf "read_corridor" "read_corridor" (defArgs s_read_corridor) (defBody s_read_corridor) (defScope s_read_corridor) .none kV13 dc13 pm13 an13 cd13 ct13), sl13⟩)
    (c13 : PySem.W.codeIn K cd13 "read_corridor" = true)
    (k13 : PySem.W.keepIn K (.ref f13) = true)
    (a14 : PySem.W.nsIn K mainGlobals "read_names_parser" = some (some (.ref f14)))
    (l14 : K.lookup f14 = some ⟨oc14, od14, .func (PySem.W.fnOf "read_names" "read_names" (defArgs s_read_names) (defBody s_read_names) (defScope s_read_names) .none kV14 dc14 pm14 an14 cd14 ct14), sl14⟩)
    (c14 : PySem.W.codeIn K cd14 "read_names" = true)
    (k14 : PySem.W.keepIn K (.ref f14) = true)
    (a15 : PySem.W.nsIn K mainGlobals "read_statement" = some (some (.ref f15)))
    (l15 : K.lookup f15 = some ⟨oc15, od15, .func (PySem.W.fnOf "read_statement" "read_statement" (defArgs s_read_statement) (defBody s_read_statement) (defScope s_read_statement) .none kV15 dc15 pm15 an15 cd15 ct15), sl15⟩)
    (c15 : PySem.W.codeIn K cd15 "read_statement" = true)
    (k15 : PySem.W.keepIn K (.ref f15) = true)
    (a16 : PySem.W.nsIn K mainGlobals "read_robot" = some (some (.ref f16)))
    (l16 : K.lookup f16 = some ⟨oc16, od16, .func (PySem.W.fnOf "read_robot" "read_robot" (defArgs s_read_robot) (defBody s_read_robot) (defScope s_read_robot) .none kV16 dc16 pm16 an16 cd16 ct16), sl16⟩)
    (c16 : PySem.W.codeIn K cd16 "read_robot" = true)
    (k16 : PySem.W.keepIn K (.ref f16) = true)
    (a17 : PySem.W.nsIn K mainGlobals "read_put" = some (some (.ref f17)))
    (l17 : K.lookup f17 = some ⟨oc17, od17, .func (PySem.W.fnOf "read_put" "read_put" (defArgs s_read_put) (defBody s_read_put) (defScope s_read_put) .none kV17 dc17 pm17 an17 cd17 ct17), sl17⟩)
    (c17 : PySem.W.codeIn K cd17 "read_put" = true)
    (k17 : PySem.W.keepIn K (.ref f17) = true)
    (a18 : PySem.W.nsIn K mainGlobals "read_rule" = some (some (.ref f18)))
    (l18 : K.lookup f18 = some ⟨oc18, od18, .func (PySem.W.fnOf "read_rule" "read_rule" (defArgs s_read_rule) (defBody s_read_rule) (defScope s_read_rule) .none kV18 dc18 pm18 an18 cd18 ct18), sl18⟩)
    (c18 : PySem.W.codeIn K cd18 "read_rule" = true)
    (k18 : PySem.W.keepIn K (.ref f18) = true)
    (a19 : PySem.W.findIn K (.ref C_Plan) "__init__" = some (some (.ref f19)))
    (i19 : PySem.W.isFn K (.ref f19) = true)
    (l19 : K.lookup f19 = some ⟨oc19, od19, .func (PySem.W.fnOf "__init__" "Plan.__init__" (defArgs s_Plan_init) (defBody s_Plan_init) (defScope s_Plan_init) .none kV19 dc19 pm19 an19 cd19 ct19), sl19⟩)
    (c19 : PySem.W.codeIn K cd19 "Plan.__init__" = true)
    (k19 : PySem.W.keepIn K (.ref f19) = true)
    (a20 : PySem.W.nsIn K mainGlobals "read_plan" = some (some (.ref f20)))
    (l20 : K.lookup f20 = some ⟨oc20, od20, .func (PySem.W.fnOf "read_plan" "read_plan" (defArgs s_read_plan) (defBody s_read_plan) (defScope s_read_plan) .none kV20 dc20 pm20 an20 cd20 ct20), sl20⟩)
    (c20 : PySem.W.codeIn K cd20 "read_plan" = true)
    (k20 : PySem.W.keepIn K (.ref f20) = true)
    (a21 : PySem.W.nsIn K mainGlobals "read_plans" = some (some (.ref f21)))
    (l21 : K.lookup f21 = some ⟨oc21, od21, .func (PySem.W.fnOf "read_plans" "read_plans" (defArgs s_read_plans) (defBody s_read_plans) (defScope s_read_plans) .none kV21 dc21 pm21 an21 cd21 ct21), sl21⟩)
    (c21 : PySem.W.codeIn K cd21 "read_plans" = true)
    (k21 : PySem.W.keepIn K (.ref f21) = true)
    (a22 : PySem.W.nsIn K mainGlobals "checked_plan" = some (some (.ref f22)))
    (l22 : K.lookup f22 = some ⟨oc22, od22, .func (PySem.W.fnOf "checked_plan" "checked_plan" (defArgs s_checked_plan) (defBody s_checked_plan) (defScope s_checked_plan) .none kV22 dc22 pm22 an22 cd22 ct22), sl22⟩)
    (c22 : PySem.W.codeIn K cd22 "checked_plan" = true)
    (k22 : PySem.W.keepIn K (.ref f22) = true)
    (a23 : PySem.W.nsIn K mainGlobals "require" = some (some (.ref f23)))
    (l23 : K.lookup f23 = some ⟨oc23, od23, .func (PySem.W.fnOf "require" "require" (defArgs s_require) (defBody s_require) (defScope s_require) .none kV23 dc23 pm23 an23 cd23 ct23), sl23⟩)
    (c23 : PySem.W.codeIn K cd23 "require" = true)
    (k23 : PySem.W.keepIn K (.ref f23) = true)
    (a24 : PySem.W.nsIn K mainGlobals "add_corridor" = some (some (.ref f24)))
    (l24 : K.lookup f24 = some ⟨oc24, od24, .func (PySem.W.fnOf "add_corridor" "add_corridor" (defArgs s_add_corridor) (defBody s_add_corridor) (defScope s_add_corridor) .none kV24 dc24 pm24 an24 cd24 ct24), sl24⟩)
    (c24 : PySem.W.codeIn K cd24 "add_corridor" = true)
    (k24 : PySem.W.keepIn K (.ref f24) = true)
    (a25 : PySem.W.nsIn K mainGlobals "add_signs" = some (some (.ref f25)))
    (l25 : K.lookup f25 = some ⟨oc25, od25, .func (PySem.W.fnOf "add_signs" "add_signs" (defArgs s_add_signs) (defBody s_add_signs) (defScope s_add_signs) .none kV25 dc25 pm25 an25 cd25 ct25), sl25⟩)
    (c25 : PySem.W.codeIn K cd25 "add_signs" = true)
    (k25 : PySem.W.keepIn K (.ref f25) = true)
    (a26 : PySem.W.nsIn K mainGlobals "add_moods" = some (some (.ref f26)))
    (l26 : K.lookup f26 = some ⟨oc26, od26, .func (PySem.W.fnOf "add_moods" "add_moods" (defArgs s_add_moods) (defBody s_add_moods) (defScope s_add_moods) .none kV26 dc26 pm26 an26 cd26 ct26), sl26⟩)
    (c26 : PySem.W.codeIn K cd26 "add_moods" = true)
    (k26 : PySem.W.keepIn K (.ref f26) = true)
    (a27 : PySem.W.nsIn K mainGlobals "add_names" = some (some (.ref f27)))
    (l27 : K.lookup f27 = some ⟨oc27, od27, .func (PySem.W.fnOf "add_names" "add_names" (defArgs s_add_names) (defBody s_add_names) (defScope s_add_names) .none kV27 dc27 pm27 an27 cd27 ct27), sl27⟩)
    (c27 : PySem.W.codeIn K cd27 "add_names" = true)
    (k27 : PySem.W.keepIn K (.ref f27) = true)
    (a28 : PySem.W.nsIn K mainGlobals "add_robot" = some (some (.ref f28)))
    (l28 : K.lookup f28 = some ⟨oc28, od28, .func (PySem.W.fnOf "add_robot" "add_robot" (defArgs s_add_robot) (defBody s_add_robot) (defScope s_add_robot) .none kV28 dc28 pm28 an28 cd28 ct28), sl28⟩)
    (c28 : PySem.W.codeIn K cd28 "add_robot" = true)
    (k28 : PySem.W.keepIn K (.ref f28) = true)
    (a29 : PySem.W.nsIn K mainGlobals "add_put" = some (some (.ref f29)))
    (l29 : K.lookup f29 = some ⟨oc29, od29, .func (PySem.W.fnOf "add_put" "add_put" (defArgs s_add_put) (defBody s_add_put) (defScope s_add_put) .none kV29 dc29 pm29 an29 cd29 ct29), sl29⟩)
    (c29 : PySem.W.codeIn K cd29 "add_put" = true)
    (k29 : PySem.W.keepIn K (.ref f29) = true)
    (a30 : PySem.W.nsIn K mainGlobals "add_rule" = some (some (.ref f30)))
    (l30 : K.lookup f30 = some ⟨oc30, od30, .func (PySem.W.fnOf "add_rule" "add_rule" (defArgs s_add_rule) (defBody s_add_rule) (defScope s_add_rule) .none kV30 dc30 pm30 an30 cd30 ct30), sl30⟩)
    (c30 : PySem.W.codeIn K cd30 "add_rule" = true)
    (k30 : PySem.W.keepIn K (.ref f30) = true)
    (a31 : PySem.W.nsIn K mainGlobals "tile_of" = some (some (.ref f31)))
    (l31 : K.lookup f31 = some ⟨oc31, od31, .func (PySem.W.fnOf "tile_of" "tile_of" (defArgs s_tile_of) (defBody s_tile_of) (defScope s_tile_of) .none kV31 dc31 pm31 an31 cd31 ct31), sl31⟩)
    (c31 : PySem.W.codeIn K cd31 "tile_of" = true)
    (k31 : PySem.W.keepIn K (.ref f31) = true)
    (a32 : PySem.W.nsIn K mainGlobals "number_of" = some (some (.ref f32)))
    (l32 : K.lookup f32 = some ⟨oc32, od32, .func (PySem.W.fnOf "number_of" "number_of" (defArgs s_number_of) (defBody s_number_of) (defScope s_number_of) .none kV32 dc32 pm32 an32 cd32 ct32), sl32⟩)
    (c32 : PySem.W.codeIn K cd32 "number_of" = true)
    (k32 : PySem.W.keepIn K (.ref f32) = true)
    (a33 : PySem.W.nsIn K mainGlobals "format_plan" = some (some (.ref f33)))
    (l33 : K.lookup f33 = some ⟨oc33, od33, .func (PySem.W.fnOf "format_plan" "format_plan" (defArgs s_format_plan) (defBody s_format_plan) (defScope s_format_plan) .none kV33 dc33 pm33 an33 cd33 ct33), sl33⟩)
    (c33 : PySem.W.codeIn K cd33 "format_plan" = true)
    (k33 : PySem.W.keepIn K (.ref f33) = true)
    (a34 : PySem.W.nsIn K mainGlobals "signs_of" = some (some (.ref f34)))
    (l34 : K.lookup f34 = some ⟨oc34, od34, .func (PySem.W.fnOf "signs_of" "signs_of" (defArgs s_signs_of) (defBody s_signs_of) (defScope s_signs_of) .none kV34 dc34 pm34 an34 cd34 ct34), sl34⟩)
    (c34 : PySem.W.codeIn K cd34 "signs_of" = true)
    (k34 : PySem.W.keepIn K (.ref f34) = true)
    (a35 : PySem.W.nsIn K mainGlobals "canonical_text" = some (some (.ref f35)))
    (l35 : K.lookup f35 = some ⟨oc35, od35, .func (PySem.W.fnOf "canonical_text" "canonical_text" (defArgs s_canonical_text) (defBody s_canonical_text) (defScope s_canonical_text) .none kV35 dc35 pm35 an35 cd35 ct35), sl35⟩)
    (c35 : PySem.W.codeIn K cd35 "canonical_text" = true)
    (k35 : PySem.W.keepIn K (.ref f35) = true)
    (a36 : PySem.W.nsIn K mainGlobals "rule_line" = some (some (.ref f36)))
    (l36 : K.lookup f36 = some ⟨oc36, od36, .func (PySem.W.fnOf "rule_line" "rule_line" (defArgs s_rule_line) (defBody s_rule_line) (defScope s_rule_line) .none kV36 dc36 pm36 an36 cd36 ct36), sl36⟩)
    (c36 : PySem.W.codeIn K cd36 "rule_line" = true)
    (k36 : PySem.W.keepIn K (.ref f36) = true)
    (a37 : PySem.W.findIn K (.ref C_Run) "__init__" = some (some (.ref f37)))
    (i37 : PySem.W.isFn K (.ref f37) = true)
    (l37 : K.lookup f37 = some ⟨oc37, od37, .func (PySem.W.fnOf "__init__" "Run.__init__" (defArgs s_Run_init) (defBody s_Run_init) (defScope s_Run_init) .none kV37 dc37 pm37 an37 cd37 ct37), sl37⟩)
    (c37 : PySem.W.codeIn K cd37 "Run.__init__" = true)
    (k37 : PySem.W.keepIn K (.ref f37) = true)
    (a38 : PySem.W.findIn K (.ref C_Run) "first_like" = some (some (.ref f38)))
    (i38 : PySem.W.isFn K (.ref f38) = true)
    (l38 : K.lookup f38 = some ⟨oc38, od38, .func (PySem.W.fnOf "first_like" "Run.first_like" (defArgs s_Run_first_like) (defBody s_Run_first_like) (defScope s_Run_first_like) .none kV38 dc38 pm38 an38 cd38 ct38), sl38⟩)
    (c38 : PySem.W.codeIn K cd38 "Run.first_like" = true)
    (k38 : PySem.W.keepIn K (.ref f38) = true)
    (a39 : PySem.W.nsIn K mainGlobals "first_in_cycle" = some (some (.ref f39)))
    (l39 : K.lookup f39 = some ⟨oc39, od39, .func (PySem.W.fnOf "first_in_cycle" "first_in_cycle" (defArgs s_first_in_cycle) (defBody s_first_in_cycle) (defScope s_first_in_cycle) .none kV39 dc39 pm39 an39 cd39 ct39), sl39⟩)
    (c39 : PySem.W.codeIn K cd39 "first_in_cycle" = true)
    (k39 : PySem.W.keepIn K (.ref f39) = true)
    (a40 : PySem.W.nsIn K mainGlobals "first_situation" = some (some (.ref f40)))
    (l40 : K.lookup f40 = some ⟨oc40, od40, .func (PySem.W.fnOf "first_situation" "first_situation" (defArgs s_first_situation) (defBody s_first_situation) (defScope s_first_situation) .none kV40 dc40 pm40 an40 cd40 ct40), sl40⟩)
    (c40 : PySem.W.codeIn K cd40 "first_situation" = true)
    (k40 : PySem.W.keepIn K (.ref f40) = true)
    (a41 : PySem.W.nsIn K mainGlobals "perform" = some (some (.ref f41)))
    (l41 : K.lookup f41 = some ⟨oc41, od41, .func (PySem.W.fnOf "perform" "perform" (defArgs s_perform) (defBody s_perform) (defScope s_perform) .none kV41 dc41 pm41 an41 cd41 ct41), sl41⟩)
    (c41 : PySem.W.codeIn K cd41 "perform" = true)
    (k41 : PySem.W.keepIn K (.ref f41) = true)
    (a42 : PySem.W.nsIn K mainGlobals "act" = some (some (.ref f42)))
    (l42 : K.lookup f42 = some ⟨oc42, od42, .func (PySem.W.fnOf "act" "act" (defArgs s_act) (defBody s_act) (defScope s_act) .none kV42 dc42 pm42 an42 cd42 ct42), sl42⟩)
    (c42 : PySem.W.codeIn K cd42 "act" = true)
    (k42 : PySem.W.keepIn K (.ref f42) = true)
    (a43 : PySem.W.nsIn K mainGlobals "moved" = some (some (.ref f43)))
    (l43 : K.lookup f43 = some ⟨oc43, od43, .func (PySem.W.fnOf "moved" "moved" (defArgs s_moved) (defBody s_moved) (defScope s_moved) .none kV43 dc43 pm43 an43 cd43 ct43), sl43⟩)
    (c43 : PySem.W.codeIn K cd43 "moved" = true)
    (k43 : PySem.W.keepIn K (.ref f43) = true)
    (a44 : PySem.W.nsIn K mainGlobals "robot_tuples" = some (some (.ref f44)))
    (l44 : K.lookup f44 = some ⟨oc44, od44, .func (PySem.W.fnOf "robot_tuples" "robot_tuples" (defArgs s_robot_tuples) (defBody s_robot_tuples) (defScope s_robot_tuples) .none kV44 dc44 pm44 an44 cd44 ct44), sl44⟩)
    (c44 : PySem.W.codeIn K cd44 "robot_tuples" = true)
    (k44 : PySem.W.keepIn K (.ref f44) = true)
    (a45 : PySem.W.nsIn K mainGlobals "is_integer" = some (some (.ref f45)))
    (l45 : K.lookup f45 = some ⟨oc45, od45, .func (PySem.W.fnOf "is_integer" "is_integer" (defArgs s_is_integer) (defBody s_is_integer) (defScope s_is_integer) .none kV45 dc45 pm45 an45 cd45 ct45), sl45⟩)
    (c45 : PySem.W.codeIn K cd45 "is_integer" = true)
    (k45 : PySem.W.keepIn K (.ref f45) = true)
    (a46 : PySem.W.nsIn K mainGlobals "check_tick" = some (some (.ref f46)))
    (l46 : K.lookup f46 = some ⟨oc46, od46, .func (PySem.W.fnOf "check_tick" "check_tick" (defArgs s_check_tick) (defBody s_check_tick) (defScope s_check_tick) (.ref dt46) kV46 dc46 pm46 an46 cd46 ct46), sl46⟩)
    (ld46 : K.lookup dt46 = some ⟨.type "tuple", none, .seq #[.int 0 dk46_0, .int 1000000000000000000 dk46_1] dn46, dsl46⟩)
    (c46 : PySem.W.codeIn K cd46 "check_tick" = true)
    (k46 : PySem.W.keepIn K (.ref f46) = true)
    (a47 : PySem.W.nsIn K mainGlobals "first_difference" = some (some (.ref f47)))
    (l47 : K.lookup f47 = some ⟨oc47, od47, .func (PySem.W.fnOf "first_difference" "first_difference" (defArgs s_first_difference) (defBody s_first_difference) (defScope s_first_difference) .none kV47 dc47 pm47 an47 cd47 ct47), sl47⟩)
    (c47 : PySem.W.codeIn K cd47 "first_difference" = true)
    (k47 : PySem.W.keepIn K (.ref f47) = true)
    (a48 : PySem.W.nsIn K mainGlobals "signs_after" = some (some (.ref f48)))
    (l48 : K.lookup f48 = some ⟨oc48, od48, .func (PySem.W.fnOf "signs_after" "signs_after" (defArgs s_signs_after) (defBody s_signs_after) (defScope s_signs_after) .none kV48 dc48 pm48 an48 cd48 ct48), sl48⟩)
    (c48 : PySem.W.codeIn K cd48 "signs_after" = true)
    (k48 : PySem.W.keepIn K (.ref f48) = true)
    (a49 : PySem.W.findIn K (.ref C_ByteReader) "__init__" = some (some (.ref f49)))
    (i49 : PySem.W.isFn K (.ref f49) = true)
    (l49 : K.lookup f49 = some ⟨oc49, od49, .func (PySem.W.fnOf "__init__" "ByteReader.__init__" (defArgs s_ByteReader_init) (defBody s_ByteReader_init) (defScope s_ByteReader_init) .none kV49 dc49 pm49 an49 cd49 ct49), sl49⟩)
    (c49 : PySem.W.codeIn K cd49 "ByteReader.__init__" = true)
    (k49 : PySem.W.keepIn K (.ref f49) = true)
    (a50 : PySem.W.findIn K (.ref C_ByteReader) "take" = some (some (.ref f50)))
    (i50 : PySem.W.isFn K (.ref f50) = true)
    (l50 : K.lookup f50 = some ⟨oc50, od50, .func (PySem.W.fnOf "take" "ByteReader.take" (defArgs s_ByteReader_take) (defBody s_ByteReader_take) (defScope s_ByteReader_take) .none kV50 dc50 pm50 an50 cd50 ct50), sl50⟩)
    (c50 : PySem.W.codeIn K cd50 "ByteReader.take" = true)
    (k50 : PySem.W.keepIn K (.ref f50) = true)
    (a51 : PySem.W.findIn K (.ref C_ByteReader) "end" = some (some (.ref f51)))
    (i51 : PySem.W.isFn K (.ref f51) = true)
    (l51 : K.lookup f51 = some ⟨oc51, od51, .func (PySem.W.fnOf "end" "ByteReader.end" (defArgs s_ByteReader_end) (defBody s_ByteReader_end) (defScope s_ByteReader_end) .none kV51 dc51 pm51 an51 cd51 ct51), sl51⟩)
    (c51 : PySem.W.codeIn K cd51 "ByteReader.end" = true)
    (k51 : PySem.W.keepIn K (.ref f51) = true)
    (a52 : PySem.W.nsIn K mainGlobals "encode" = some (some (.ref f52)))
    (l52 : K.lookup f52 = some ⟨oc52, od52, .func (PySem.W.fnOf "encode" "encode" (defArgs s_encode) (defBody s_encode) (defScope s_encode) .none kV52 dc52 pm52 an52 cd52 ct52), sl52⟩)
    (c52 : PySem.W.codeIn K cd52 "encode" = true)
    (k52 : PySem.W.keepIn K (.ref f52) = true)
    (a53 : PySem.W.nsIn K mainGlobals "names_code" = some (some (.ref f53)))
    (l53 : K.lookup f53 = some ⟨oc53, od53, .func (PySem.W.fnOf "names_code" "names_code" (defArgs s_names_code) (defBody s_names_code) (defScope s_names_code) .none kV53 dc53 pm53 an53 cd53 ct53), sl53⟩)
    (c53 : PySem.W.codeIn K cd53 "names_code" = true)
    (k53 : PySem.W.keepIn K (.ref f53) = true)
    (a54 : PySem.W.nsIn K mainGlobals "decode" = some (some (.ref f54)))
    (l54 : K.lookup f54 = some ⟨oc54, od54, .func (PySem.W.fnOf "decode" "decode" (defArgs s_decode) (defBody s_decode) (defScope s_decode) .none kV54 dc54 pm54 an54 cd54 ct54), sl54⟩)
    (c54 : PySem.W.codeIn K cd54 "decode" = true)
    (k54 : PySem.W.keepIn K (.ref f54) = true)
    (a55 : PySem.W.nsIn K mainGlobals "read_names_encoding" = some (some (.ref f55)))
    (l55 : K.lookup f55 = some ⟨oc55, od55, .func (PySem.W.fnOf "read_names" "read_names" (defArgs s_read_names_encoding) (defBody s_read_names_encoding) (defScope s_read_names_encoding) .none kV55 dc55 pm55 an55 cd55 ct55), sl55⟩)
    (c55 : PySem.W.codeIn K cd55 "read_names" = true)
    (k55 : PySem.W.keepIn K (.ref f55) = true)
    (a56 : PySem.W.nsIn K mainGlobals "read_name" = some (some (.ref f56)))
    (l56 : K.lookup f56 = some ⟨oc56, od56, .func (PySem.W.fnOf "read_name" "read_name" (defArgs s_read_name) (defBody s_read_name) (defScope s_read_name) .none kV56 dc56 pm56 an56 cd56 ct56), sl56⟩)
    (c56 : PySem.W.codeIn K cd56 "read_name" = true)
    (k56 : PySem.W.keepIn K (.ref f56) = true)
    (a57 : PySem.W.nsIn K mainGlobals "read_start" = some (some (.ref f57)))
    (l57 : K.lookup f57 = some ⟨oc57, od57, .func (PySem.W.fnOf "read_start" "read_start" (defArgs s_read_start) (defBody s_read_start) (defScope s_read_start) .none kV57 dc57 pm57 an57 cd57 ct57), sl57⟩)
    (c57 : PySem.W.codeIn K cd57 "read_start" = true)
    (k57 : PySem.W.keepIn K (.ref f57) = true)
    (a58 : PySem.W.nsIn K mainGlobals "read_rules" = some (some (.ref f58)))
    (l58 : K.lookup f58 = some ⟨oc58, od58, .func (PySem.W.fnOf "read_rules" "read_rules" (defArgs s_read_rules) (defBody s_read_rules) (defScope s_read_rules) .none kV58 dc58 pm58 an58 cd58 ct58), sl58⟩)
    (c58 : PySem.W.codeIn K cd58 "read_rules" = true)
    (k58 : PySem.W.keepIn K (.ref f58) = true)
    (a59 : PySem.W.nsIn K mainGlobals "robots_in" = some (some (.ref f59)))
    (l59 : K.lookup f59 = some ⟨oc59, od59, .func (PySem.W.fnOf "robots_in" "robots_in" (defArgs s_robots_in) (defBody s_robots_in) (defScope s_robots_in) .none kV59 dc59 pm59 an59 cd59 ct59), sl59⟩)
    (c59 : PySem.W.codeIn K cd59 "robots_in" = true)
    (k59 : PySem.W.keepIn K (.ref f59) = true)
    (a60 : PySem.W.nsIn K mainGlobals "situation_after" = some (some (.ref f60)))
    (l60 : K.lookup f60 = some ⟨oc60, od60, .func (PySem.W.fnOf "situation_after" "situation_after" (defArgs s_situation_after) (defBody s_situation_after) (defScope s_situation_after) .none kV60 dc60 pm60 an60 cd60 ct60), sl60⟩)
    (c60 : PySem.W.codeIn K cd60 "situation_after" = true)
    (k60 : PySem.W.keepIn K (.ref f60) = true)
    (a61 : PySem.W.nsIn K mainGlobals "_law_random" = some (some (.ref f61)))
    (l61 : K.lookup f61 = some ⟨oc61, od61, .func (PySem.W.fnOf "_law_random" "_law_random" (defArgs s_l_random) (defBody s_l_random) (defScope s_l_random) .none kV61 dc61 pm61 an61 cd61 ct61), sl61⟩)
    (c61 : PySem.W.codeIn K cd61 "_law_random" = true)
    (k61 : PySem.W.keepIn K (.ref f61) = true)
    (a62 : PySem.W.nsIn K mainGlobals "_law_below" = some (some (.ref f62)))
    (l62 : K.lookup f62 = some ⟨oc62, od62, .func (PySem.W.fnOf "_law_below" "_law_below" (defArgs s_l_below) (defBody s_l_below) (defScope s_l_below) .none kV62 dc62 pm62 an62 cd62 ct62), sl62⟩)
    (c62 : PySem.W.codeIn K cd62 "_law_below" = true)
    (k62 : PySem.W.keepIn K (.ref f62) = true)
    (a63 : PySem.W.nsIn K mainGlobals "_law_shuffled" = some (some (.ref f63)))
    (l63 : K.lookup f63 = some ⟨oc63, od63, .func (PySem.W.fnOf "_law_shuffled" "_law_shuffled" (defArgs s_l_shuffled) (defBody s_l_shuffled) (defScope s_l_shuffled) .none kV63 dc63 pm63 an63 cd63 ct63), sl63⟩)
    (c63 : PySem.W.codeIn K cd63 "_law_shuffled" = true)
    (k63 : PySem.W.keepIn K (.ref f63) = true)
    (a64 : PySem.W.nsIn K mainGlobals "_law_plan" = some (some (.ref f64)))
    (l64 : K.lookup f64 = some ⟨oc64, od64, .func (PySem.W.fnOf "_law_plan" "_law_plan" (defArgs s_l_plan) (defBody s_l_plan) (defScope s_l_plan) .none kV64 dc64 pm64 an64 cd64 ct64), sl64⟩)
    (c64 : PySem.W.codeIn K cd64 "_law_plan" = true)
    (k64 : PySem.W.keepIn K (.ref f64) = true)
    (a65 : PySem.W.nsIn K mainGlobals "_law_lines" = some (some (.ref f65)))
    (l65 : K.lookup f65 = some ⟨oc65, od65, .func (PySem.W.fnOf "_law_lines" "_law_lines" (defArgs s_l_lines) (defBody s_l_lines) (defScope s_l_lines) .none kV65 dc65 pm65 an65 cd65 ct65), sl65⟩)
    (c65 : PySem.W.codeIn K cd65 "_law_lines" = true)
    (k65 : PySem.W.keepIn K (.ref f65) = true)
    (a66 : PySem.W.nsIn K mainGlobals "_law_text" = some (some (.ref f66)))
    (l66 : K.lookup f66 = some ⟨oc66, od66, .func (PySem.W.fnOf "_law_text" "_law_text" (defArgs s_l_text) (defBody s_l_text) (defScope s_l_text) .none kV66 dc66 pm66 an66 cd66 ct66), sl66⟩)
    (c66 : PySem.W.codeIn K cd66 "_law_text" = true)
    (k66 : PySem.W.keepIn K (.ref f66) = true)
    (a67 : PySem.W.nsIn K mainGlobals "_law_placed" = some (some (.ref f67)))
    (l67 : K.lookup f67 = some ⟨oc67, od67, .func (PySem.W.fnOf "_law_placed" "_law_placed" (defArgs s_l_placed) (defBody s_l_placed) (defScope s_l_placed) .none kV67 dc67 pm67 an67 cd67 ct67), sl67⟩)
    (c67 : PySem.W.codeIn K cd67 "_law_placed" = true)
    (k67 : PySem.W.keepIn K (.ref f67) = true)
    (a68 : PySem.W.nsIn K mainGlobals "_law_short" = some (some (.ref f68)))
    (l68 : K.lookup f68 = some ⟨oc68, od68, .func (PySem.W.fnOf "_law_short" "_law_short" (defArgs s_l_short) (defBody s_l_short) (defScope s_l_short) .none kV68 dc68 pm68 an68 cd68 ct68), sl68⟩)
    (c68 : PySem.W.codeIn K cd68 "_law_short" = true)
    (k68 : PySem.W.keepIn K (.ref f68) = true)
    (a69 : PySem.W.nsIn K mainGlobals "law" = some (some (.ref f69)))
    (l69 : K.lookup f69 = some ⟨oc69, od69, .func (PySem.W.fnOf "law" "law" (defArgs s_law) (defBody s_law) (defScope s_law) .none kV69 dc69 pm69 an69 cd69 ct69), sl69⟩)
    (c69 : PySem.W.codeIn K cd69 "law" = true)
    (k69 : PySem.W.keepIn K (.ref f69) = true)
    (g_LETTERS : PySem.W.nsIn K mainGlobals "LETTERS" = some (some (.str "abcdefghijklmnopqrstuvwxyz" t_LETTERS)))
    (g_DIGITS : PySem.W.nsIn K mainGlobals "DIGITS" = some (some (.str "0123456789" t_DIGITS)))
    (g_KEYWORDS : PySem.W.nsIn K mainGlobals "KEYWORDS" = some (some (.ref p_KEYWORDS)))
    (lt_KEYWORDS : K.lookup p_KEYWORDS = some ⟨.type "tuple", none, .seq #[.str "corridor" t_KEYWORDS_0, .str "signs" t_KEYWORDS_1, .str "moods" t_KEYWORDS_2, .str "robot" t_KEYWORDS_3, .str "put" t_KEYWORDS_4, .str "when" t_KEYWORDS_5, .str "leave" t_KEYWORDS_6, .str "left" t_KEYWORDS_7, .str "right" t_KEYWORDS_8, .str "on" t_KEYWORDS_9, .str "back" t_KEYWORDS_10, .str "stay" t_KEYWORDS_11] n_KEYWORDS, sl_KEYWORDS⟩)
    (g_LONGEST_WORD : PySem.W.nsIn K mainGlobals "LONGEST_WORD" = some (some (.int 8 t_LONGEST_WORD)))
    (g_LONGEST_NUMBER : PySem.W.nsIn K mainGlobals "LONGEST_NUMBER" = some (some (.int 2 t_LONGEST_NUMBER)))
    (g_MOST_TILES : PySem.W.nsIn K mainGlobals "MOST_TILES" = some (some (.int 16 t_MOST_TILES)))
    (g_MOST_SIGNS : PySem.W.nsIn K mainGlobals "MOST_SIGNS" = some (some (.int 4 t_MOST_SIGNS)))
    (g_MOST_MOODS : PySem.W.nsIn K mainGlobals "MOST_MOODS" = some (some (.int 6 t_MOST_MOODS)))
    (g_MOST_ROBOTS : PySem.W.nsIn K mainGlobals "MOST_ROBOTS" = some (some (.int 3 t_MOST_ROBOTS)))
    (g_SIDES : PySem.W.nsIn K mainGlobals "SIDES" = some (some (.ref p_SIDES)))
    (lt_SIDES : K.lookup p_SIDES = some ⟨.type "tuple", none, .seq #[.str "left" t_SIDES_0, .str "right" t_SIDES_1] n_SIDES, sl_SIDES⟩)
    (g_MOVES : PySem.W.nsIn K mainGlobals "MOVES" = some (some (.ref p_MOVES)))
    (lt_MOVES : K.lookup p_MOVES = some ⟨.type "tuple", none, .seq #[.str "on" t_MOVES_0, .str "back" t_MOVES_1, .str "stay" t_MOVES_2] n_MOVES, sl_MOVES⟩)
    (g_ADDERS : PySem.W.nsIn K mainGlobals "ADDERS" = some (some (.ref p_ADDERS)))
    (ld_ADDERS : K.lookup p_ADDERS = some ⟨.type "dict", none, .dict es_ADDERS n_ADDERS, #[]⟩)
    (kd_ADDERS : PySem.W.KeysLit w.params es_ADDERS.toList)
    (e_ADDERS_corridor : PySem.W.nsIn K p_ADDERS "corridor" = some (some (.ref f24)))
    (e_ADDERS_signs : PySem.W.nsIn K p_ADDERS "signs" = some (some (.ref f25)))
    (e_ADDERS_moods : PySem.W.nsIn K p_ADDERS "moods" = some (some (.ref f26)))
    (e_ADDERS_robot : PySem.W.nsIn K p_ADDERS "robot" = some (some (.ref f28)))
    (e_ADDERS_put : PySem.W.nsIn K p_ADDERS "put" = some (some (.ref f29)))
    (e_ADDERS_when : PySem.W.nsIn K p_ADDERS "when" = some (some (.ref f30)))
    (g_LEFT : PySem.W.nsIn K mainGlobals "LEFT" = some (some (.int 0 t_LEFT)))
    (g_BACK : PySem.W.nsIn K mainGlobals "BACK" = some (some (.int 1 t_BACK)))
    (g_STAY : PySem.W.nsIn K mainGlobals "STAY" = some (some (.int 2 t_STAY)))
    (g_LAST_REPEAT : PySem.W.nsIn K mainGlobals "LAST_REPEAT" = some (some (.int 20000 t_LAST_REPEAT)))
    (g_LAST_TICK : PySem.W.nsIn K mainGlobals "LAST_TICK" = some (some (.int 1000000000000000000 t_LAST_TICK)))
    (g_MARK : PySem.W.nsIn K mainGlobals "MARK" = some (some (.int 82 t_MARK)))
    (g_BYTES : PySem.W.nsIn K mainGlobals "BYTES" = some (some (.int 256 t_BYTES)))
    (z_ValueError : PySem.W.nsIn K mainGlobals "ValueError" = some none)
    (z_abs : PySem.W.nsIn K mainGlobals "abs" = some none)
    (z_bool : PySem.W.nsIn K mainGlobals "bool" = some none)
    (z_enumerate : PySem.W.nsIn K mainGlobals "enumerate" = some none)
    (z_int : PySem.W.nsIn K mainGlobals "int" = some none)
    (z_isinstance : PySem.W.nsIn K mainGlobals "isinstance" = some none)
    (z_len : PySem.W.nsIn K mainGlobals "len" = some none)
    (z_list : PySem.W.nsIn K mainGlobals "list" = some none)
    (z_max : PySem.W.nsIn K mainGlobals "max" = some none)
    (z_min : PySem.W.nsIn K mainGlobals "min" = some none)
    (z_range : PySem.W.nsIn K mainGlobals "range" = some none)
    (z_sorted : PySem.W.nsIn K mainGlobals "sorted" = some none)
    (z_str : PySem.W.nsIn K mainGlobals "str" = some none)
    (z_sum : PySem.W.nsIn K mainGlobals "sum" = some none)
    (z_super : PySem.W.nsIn K mainGlobals "super" = some none)
    (z_tuple : PySem.W.nsIn K mainGlobals "tuple" = some none)
    : ∃ fd : FuncData, (∀ (s : Shared) (v : Value), BindsTo s fd ⟨[v], []⟩ [("_law_script", v)]) ∧ ∀ base : Heap, K.In base → base.Ns mainGlobals mg → FnOk l.prog w K mg base CX0 13 fa fd ["_law_script"] (spLaw K) := by
  have e := hfa.symm.trans (PySem.W.mg_of X G a69)
  cases e
  obtain ⟨a, ha⟩ : ∃ a : Adr, a = { cToken := C_Token, cStatement := C_Statement, cReader := C_Reader, cPlan := C_Plan, cRun := C_Run, cByteReader := C_ByteReader, tLETTERS := t_LETTERS, tDIGITS := t_DIGITS, aKEYWORDS := p_KEYWORDS, tLONGEST_WORD := t_LONGEST_WORD, tLONGEST_NUMBER := t_LONGEST_NUMBER, tMOST_TILES := t_MOST_TILES, tMOST_SIGNS := t_MOST_SIGNS, tMOST_MOODS := t_MOST_MOODS, tMOST_ROBOTS := t_MOST_ROBOTS, aSIDES := p_SIDES, aMOVES := p_MOVES, aADDERS := p_ADDERS, fADDERS_corridor := f24, fADDERS_signs := f25, fADDERS_moods := f26, fADDERS_robot := f28, fADDERS_put := f29, fADDERS_when := f30, tLEFT := t_LEFT, tBACK := t_BACK, tSTAY := t_STAY, tLAST_REPEAT := t_LAST_REPEAT, tLAST_TICK := t_LAST_TICK, tMARK := t_MARK, tBYTES := t_BYTES } := ⟨_, rfl⟩
  have T : Txt w K mg a := by
    subst ha
    exact { c_Token := PySem.W.mg_of X G ca_Token, cl_Token := ⟨pg_Token, hd_Token, po_Token, sa_Token⟩, n_Token_kind := na_Token_kind, n_Token_text := na_Token_text, n_Token_line := na_Token_line, n_Token_column := na_Token_column, c_Statement := PySem.W.mg_of X G ca_Statement, cl_Statement := ⟨pg_Statement, hd_Statement, po_Statement, sa_Statement⟩, n_Statement_word := na_Statement_word, n_Statement_parts := na_Statement_parts, c_Reader := PySem.W.mg_of X G ca_Reader, cl_Reader := ⟨pg_Reader, hd_Reader, po_Reader, sa_Reader⟩, n_Reader_tokens := na_Reader_tokens, n_Reader_lines := na_Reader_lines, n_Reader_at := na_Reader_at, c_Plan := PySem.W.mg_of X G ca_Plan, cl_Plan := ⟨pg_Plan, hd_Plan, po_Plan, sa_Plan⟩, n_Plan_size := na_Plan_size, n_Plan_signs := na_Plan_signs, n_Plan_moods := na_Plan_moods, n_Plan_robots := na_Plan_robots, n_Plan_puts := na_Plan_puts, n_Plan_rules := na_Plan_rules, c_Run := PySem.W.mg_of X G ca_Run, cl_Run := ⟨pg_Run, hd_Run, po_Run, sa_Run⟩, n_Run_situations := na_Run_situations, n_Run_words := na_Run_words, n_Run_start := na_Run_start, n_Run_length := na_Run_length, c_ByteReader := PySem.W.mg_of X G ca_ByteReader, cl_ByteReader := ⟨pg_ByteReader, hd_ByteReader, po_ByteReader, sa_ByteReader⟩, n_ByteReader_code := na_ByteReader_code, n_ByteReader_place := na_ByteReader_place, g_LETTERS := PySem.W.mg_of X G g_LETTERS, g_DIGITS := PySem.W.mg_of X G g_DIGITS, g_KEYWORDS := PySem.W.mg_of X G g_KEYWORDS, t_KEYWORDS := ⟨_, _, _, lt_KEYWORDS, rfl, rfl, rfl, by show 12 ≤ sizeLine; decide, (.cons ⟨_, rfl⟩ (.cons ⟨_, rfl⟩ (.cons ⟨_, rfl⟩ (.cons ⟨_, rfl⟩ (.cons ⟨_, rfl⟩ (.cons ⟨_, rfl⟩ (.cons ⟨_, rfl⟩ (.cons ⟨_, rfl⟩ (.cons ⟨_, rfl⟩ (.cons ⟨_, rfl⟩ (.cons ⟨_, rfl⟩ (.cons ⟨_, rfl⟩ .nil))))))))))))⟩, g_LONGEST_WORD := PySem.W.mg_of X G g_LONGEST_WORD, g_LONGEST_NUMBER := PySem.W.mg_of X G g_LONGEST_NUMBER, g_MOST_TILES := PySem.W.mg_of X G g_MOST_TILES, g_MOST_SIGNS := PySem.W.mg_of X G g_MOST_SIGNS, g_MOST_MOODS := PySem.W.mg_of X G g_MOST_MOODS, g_MOST_ROBOTS := PySem.W.mg_of X G g_MOST_ROBOTS, g_SIDES := PySem.W.mg_of X G g_SIDES, t_SIDES := ⟨_, _, _, lt_SIDES, rfl, rfl, rfl, by show 2 ≤ sizeLine; decide, (.cons ⟨_, rfl⟩ (.cons ⟨_, rfl⟩ .nil))⟩, g_MOVES := PySem.W.mg_of X G g_MOVES, t_MOVES := ⟨_, _, _, lt_MOVES, rfl, rfl, rfl, by show 3 ≤ sizeLine; decide, (.cons ⟨_, rfl⟩ (.cons ⟨_, rfl⟩ (.cons ⟨_, rfl⟩ .nil)))⟩, g_ADDERS := PySem.W.mg_of X G g_ADDERS, d_ADDERS_corridor := ⟨_, _, _, ld_ADDERS, kd_ADDERS, e_ADDERS_corridor, rfl⟩, d_ADDERS_signs := ⟨_, _, _, ld_ADDERS, kd_ADDERS, e_ADDERS_signs, rfl⟩, d_ADDERS_moods := ⟨_, _, _, ld_ADDERS, kd_ADDERS, e_ADDERS_moods, rfl⟩, d_ADDERS_robot := ⟨_, _, _, ld_ADDERS, kd_ADDERS, e_ADDERS_robot, rfl⟩, d_ADDERS_put := ⟨_, _, _, ld_ADDERS, kd_ADDERS, e_ADDERS_put, rfl⟩, d_ADDERS_when := ⟨_, _, _, ld_ADDERS, kd_ADDERS, e_ADDERS_when, rfl⟩, g_LEFT := PySem.W.mg_of X G g_LEFT, g_BACK := PySem.W.mg_of X G g_BACK, g_STAY := PySem.W.mg_of X G g_STAY, g_LAST_REPEAT := PySem.W.mg_of X G g_LAST_REPEAT, g_LAST_TICK := PySem.W.mg_of X G g_LAST_TICK, g_MARK := PySem.W.mg_of X G g_MARK, g_BYTES := PySem.W.mg_of X G g_BYTES, n_ValueError := PySem.W.mg_none_of X G z_ValueError, n_abs := PySem.W.mg_none_of X G z_abs, n_bool := PySem.W.mg_none_of X G z_bool, n_enumerate := PySem.W.mg_none_of X G z_enumerate, n_int := PySem.W.mg_none_of X G z_int, n_isinstance := PySem.W.mg_none_of X G z_isinstance, n_len := PySem.W.mg_none_of X G z_len, n_list := PySem.W.mg_none_of X G z_list, n_max := PySem.W.mg_none_of X G z_max, n_min := PySem.W.mg_none_of X G z_min, n_range := PySem.W.mg_none_of X G z_range, n_sorted := PySem.W.mg_none_of X G z_sorted, n_str := PySem.W.mg_none_of X G z_str, n_sum := PySem.W.mg_none_of X G z_sum, n_super := PySem.W.mg_none_of X G z_super, n_tuple := PySem.W.mg_none_of X G z_tuple }
  have F1 := fun_mk (st := s_Token_init) l1 c1 k1
  have b1 := F1.binds (ps := ps_Token_init) fun _ _ _ _ _ _ us hl => match us, hl with | [_, _, _, _, _], _ => rfl
  have F2 := fun_mk (st := s_tokens_of) l2 c2 k2
  have b2 := F2.binds (ps := ps_tokens_of) fun _ _ _ _ _ _ us hl => match us, hl with | [_], _ => rfl
  have F3 := fun_mk (st := s_tokens_in) l3 c3 k3
  have b3 := F3.binds (ps := ps_tokens_in) fun _ _ _ _ _ _ us hl => match us, hl with | [_, _], _ => rfl
  have F4 := fun_mk (st := s_token_end) l4 c4 k4
  have b4 := F4.binds (ps := ps_token_end) fun _ _ _ _ _ _ us hl => match us, hl with | [_, _], _ => rfl
  have F5 := fun_mk (st := s_run_end) l5 c5 k5
  have b5 := F5.binds (ps := ps_run_end) fun _ _ _ _ _ _ us hl => match us, hl with | [_, _, _], _ => rfl
  have F6 := fun_mk (st := s_kind_of) l6 c6 k6
  have b6 := F6.binds (ps := ps_kind_of) fun _ _ _ _ _ _ us hl => match us, hl with | [_], _ => rfl
  have F7 := fun_mk (st := s_Statement_init) l7 c7 k7
  have b7 := F7.binds (ps := ps_Statement_init) fun _ _ _ _ _ _ us hl => match us, hl with | [_, _, _], _ => rfl
  have F8 := fun_mk (st := s_Reader_init) l8 c8 k8
  have b8 := F8.binds (ps := ps_Reader_init) fun _ _ _ _ _ _ us hl => match us, hl with | [_, _], _ => rfl
  have F9 := fun_mk (st := s_Reader_ended) l9 c9 k9
  have b9 := F9.binds (ps := ps_Reader_ended) fun _ _ _ _ _ _ us hl => match us, hl with | [_], _ => rfl
  have F10 := fun_mk (st := s_Reader_sees) l10 c10 k10
  have b10 := F10.binds (ps := ps_Reader_sees) fun _ _ _ _ _ _ us hl => match us, hl with | [_, _], _ => rfl
  have F11 := fun_mk (st := s_Reader_take) l11 c11 k11
  have F12 := fun_mk (st := s_parse) l12 c12 k12
  have b12 := F12.binds (ps := ps_parse) fun _ _ _ _ _ _ us hl => match us, hl with | [_], _ => rfl
  have F13 := fun_mk (st := s_read_corridor) l13 c13 k13
  have b13 := F13.binds (ps := ps_read_corridor) fun _ _ _ _ _ _ us hl => match us, hl with | [_], _ => rfl
  have F14 := fun_mk (st := s_read_names) l14 c14 k14
  have b14 := F14.binds (ps := ps_read_names) fun _ _ _ _ _ _ us hl => match us, hl with | [_, _], _ => rfl
  have F15 := fun_mk (st := s_read_statement) l15 c15 k15
  have b15 := F15.binds (ps := ps_read_statement) fun _ _ _ _ _ _ us hl => match us, hl with | [_], _ => rfl
  have F16 := fun_mk (st := s_read_robot) l16 c16 k16
  have b16 := F16.binds (ps := ps_read_robot) fun _ _ _ _ _ _ us hl => match us, hl with | [_], _ => rfl
  have F17 := fun_mk (st := s_read_put) l17 c17 k17
  have b17 := F17.binds (ps := ps_read_put) fun _ _ _ _ _ _ us hl => match us, hl with | [_], _ => rfl
  have F18 := fun_mk (st := s_read_rule) l18 c18 k18
  have b18 := F18.binds (ps := ps_read_rule) fun _ _ _ _ _ _ us hl => match us, hl with | [_], _ => rfl
  have F19 := fun_mk (st := s_Plan_init) l19 c19 k19
  have b19 := F19.binds (ps := ps_Plan_init) fun _ _ _ _ _ _ us hl => match us, hl with | [_], _ => rfl
  have F20 := fun_mk (st := s_read_plan) l20 c20 k20
  have b20 := F20.binds (ps := ps_read_plan) fun _ _ _ _ _ _ us hl => match us, hl with | [_], _ => rfl
  have F21 := fun_mk (st := s_read_plans) l21 c21 k21
  have b21 := F21.binds (ps := ps_read_plans) fun _ _ _ _ _ _ us hl => match us, hl with | [_], _ => rfl
  have F22 := fun_mk (st := s_checked_plan) l22 c22 k22
  have b22 := F22.binds (ps := ps_checked_plan) fun _ _ _ _ _ _ us hl => match us, hl with | [_], _ => rfl
  have F23 := fun_mk (st := s_require) l23 c23 k23
  have b23 := F23.binds (ps := ps_require) fun _ _ _ _ _ _ us hl => match us, hl with | [_, _, _], _ => rfl
  have F24 := fun_mk (st := s_add_corridor) l24 c24 k24
  have b24 := F24.binds (ps := ps_add_corridor) fun _ _ _ _ _ _ us hl => match us, hl with | [_, _], _ => rfl
  have F25 := fun_mk (st := s_add_signs) l25 c25 k25
  have b25 := F25.binds (ps := ps_add_signs) fun _ _ _ _ _ _ us hl => match us, hl with | [_, _], _ => rfl
  have F26 := fun_mk (st := s_add_moods) l26 c26 k26
  have b26 := F26.binds (ps := ps_add_moods) fun _ _ _ _ _ _ us hl => match us, hl with | [_, _], _ => rfl
  have F27 := fun_mk (st := s_add_names) l27 c27 k27
  have b27 := F27.binds (ps := ps_add_names) fun _ _ _ _ _ _ us hl => match us, hl with | [_, _, _, _], _ => rfl
  have F28 := fun_mk (st := s_add_robot) l28 c28 k28
  have b28 := F28.binds (ps := ps_add_robot) fun _ _ _ _ _ _ us hl => match us, hl with | [_, _], _ => rfl
  have F29 := fun_mk (st := s_add_put) l29 c29 k29
  have b29 := F29.binds (ps := ps_add_put) fun _ _ _ _ _ _ us hl => match us, hl with | [_, _], _ => rfl
  have F30 := fun_mk (st := s_add_rule) l30 c30 k30
  have b30 := F30.binds (ps := ps_add_rule) fun _ _ _ _ _ _ us hl => match us, hl with | [_, _], _ => rfl
  have F31 := fun_mk (st := s_tile_of) l31 c31 k31
  have b31 := F31.binds (ps := ps_tile_of) fun _ _ _ _ _ _ us hl => match us, hl with | [_, _], _ => rfl
  have F32 := fun_mk (st := s_number_of) l32 c32 k32
  have b32 := F32.binds (ps := ps_number_of) fun _ _ _ _ _ _ us hl => match us, hl with | [_, _], _ => rfl
  have F33 := fun_mk (st := s_format_plan) l33 c33 k33
  have b33 := F33.binds (ps := ps_format_plan) fun _ _ _ _ _ _ us hl => match us, hl with | [_], _ => rfl
  have F34 := fun_mk (st := s_signs_of) l34 c34 k34
  have b34 := F34.binds (ps := ps_signs_of) fun _ _ _ _ _ _ us hl => match us, hl with | [_], _ => rfl
  have F35 := fun_mk (st := s_canonical_text) l35 c35 k35
  have b35 := F35.binds (ps := ps_canonical_text) fun _ _ _ _ _ _ us hl => match us, hl with | [_], _ => rfl
  have F36 := fun_mk (st := s_rule_line) l36 c36 k36
  have b36 := F36.binds (ps := ps_rule_line) fun _ _ _ _ _ _ us hl => match us, hl with | [_, _, _], _ => rfl
  have F37 := fun_mk (st := s_Run_init) l37 c37 k37
  have b37 := F37.binds (ps := ps_Run_init) fun _ _ _ _ _ _ us hl => match us, hl with | [_, _], _ => rfl
  have F38 := fun_mk (st := s_Run_first_like) l38 c38 k38
  have b38 := F38.binds (ps := ps_Run_first_like) fun _ _ _ _ _ _ us hl => match us, hl with | [_, _], _ => rfl
  have F39 := fun_mk (st := s_first_in_cycle) l39 c39 k39
  have b39 := F39.binds (ps := ps_first_in_cycle) fun _ _ _ _ _ _ us hl => match us, hl with | [_, _, _], _ => rfl
  have F40 := fun_mk (st := s_first_situation) l40 c40 k40
  have b40 := F40.binds (ps := ps_first_situation) fun _ _ _ _ _ _ us hl => match us, hl with | [_], _ => rfl
  have F41 := fun_mk (st := s_perform) l41 c41 k41
  have b41 := F41.binds (ps := ps_perform) fun _ _ _ _ _ _ us hl => match us, hl with | [_, _], _ => rfl
  have F42 := fun_mk (st := s_act) l42 c42 k42
  have b42 := F42.binds (ps := ps_act) fun _ _ _ _ _ _ us hl => match us, hl with | [_, _, _], _ => rfl
  have F43 := fun_mk (st := s_moved) l43 c43 k43
  have b43 := F43.binds (ps := ps_moved) fun _ _ _ _ _ _ us hl => match us, hl with | [_, _, _, _], _ => rfl
  have F44 := fun_mk (st := s_robot_tuples) l44 c44 k44
  have b44 := F44.binds (ps := ps_robot_tuples) fun _ _ _ _ _ _ us hl => match us, hl with | [_, _], _ => rfl
  have F45 := fun_mk (st := s_is_integer) l45 c45 k45
  have b45 := F45.binds (ps := ps_is_integer) fun _ _ _ _ _ _ us hl => match us, hl with | [_], _ => rfl
  have F46 : FunD K "check_tick" "check_tick" (defArgs s_check_tick) (defBody s_check_tick) (defScope s_check_tick) [.int 0, .int 1000000000000000000] [] f46 _ := ⟨⟨_, _, _, _, _, _, _, _, _, _, rfl, l46, c46, .inr ⟨List.cons_ne_nil _ _, _, _, [.int 0 dk46_0, .int 1000000000000000000 dk46_1], _, rfl, ld46, rfl, (.cons ⟨_, rfl⟩ (.cons ⟨_, rfl⟩ .nil))⟩, .inl rfl⟩, k46⟩
  obtain ⟨⟨ds46, V_check_tick_1, B_check_tick_1⟩, b46⟩ := bd_check_tick F46
  have F47 := fun_mk (st := s_first_difference) l47 c47 k47
  have b47 := F47.binds (ps := ps_first_difference) fun _ _ _ _ _ _ us hl => match us, hl with | [_, _], _ => rfl
  have F48 := fun_mk (st := s_signs_after) l48 c48 k48
  have b48 := F48.binds (ps := ps_signs_after) fun _ _ _ _ _ _ us hl => match us, hl with | [_, _], _ => rfl
  have F49 := fun_mk (st := s_ByteReader_init) l49 c49 k49
  have b49 := F49.binds (ps := ps_ByteReader_init) fun _ _ _ _ _ _ us hl => match us, hl with | [_, _], _ => rfl
  have F50 := fun_mk (st := s_ByteReader_take) l50 c50 k50
  have b50 := F50.binds (ps := ps_ByteReader_take) fun _ _ _ _ _ _ us hl => match us, hl with | [_, _, _], _ => rfl
  have F51 := fun_mk (st := s_ByteReader_end) l51 c51 k51
  have b51 := F51.binds (ps := ps_ByteReader_end) fun _ _ _ _ _ _ us hl => match us, hl with | [_], _ => rfl
  have F52 := fun_mk (st := s_encode) l52 c52 k52
  have b52 := F52.binds (ps := ps_encode) fun _ _ _ _ _ _ us hl => match us, hl with | [_], _ => rfl
  have F53 := fun_mk (st := s_names_code) l53 c53 k53
  have b53 := F53.binds (ps := ps_names_code) fun _ _ _ _ _ _ us hl => match us, hl with | [_], _ => rfl
  have F54 := fun_mk (st := s_decode) l54 c54 k54
  have b54 := F54.binds (ps := ps_decode) fun _ _ _ _ _ _ us hl => match us, hl with | [_], _ => rfl
  have F55 := fun_mk (st := s_read_names_encoding) l55 c55 k55
  have b55 := F55.binds (ps := ps_read_names_encoding) fun _ _ _ _ _ _ us hl => match us, hl with | [_, _], _ => rfl
  have F56 := fun_mk (st := s_read_name) l56 c56 k56
  have b56 := F56.binds (ps := ps_read_name) fun _ _ _ _ _ _ us hl => match us, hl with | [_], _ => rfl
  have F57 := fun_mk (st := s_read_start) l57 c57 k57
  have b57 := F57.binds (ps := ps_read_start) fun _ _ _ _ _ _ us hl => match us, hl with | [_, _], _ => rfl
  have F58 := fun_mk (st := s_read_rules) l58 c58 k58
  have b58 := F58.binds (ps := ps_read_rules) fun _ _ _ _ _ _ us hl => match us, hl with | [_, _], _ => rfl
  have F59 := fun_mk (st := s_robots_in) l59 c59 k59
  have b59 := F59.binds (ps := ps_robots_in) fun _ _ _ _ _ _ us hl => match us, hl with | [_, _], _ => rfl
  have F60 := fun_mk (st := s_situation_after) l60 c60 k60
  have b60 := F60.binds (ps := ps_situation_after) fun _ _ _ _ _ _ us hl => match us, hl with | [_, _], _ => rfl
  have F61 := fun_mk (st := s_l_random) l61 c61 k61
  have b61 := F61.binds (ps := ps_l_random) fun _ _ _ _ _ _ us hl => match us, hl with | [_, _], _ => rfl
  have F62 := fun_mk (st := s_l_below) l62 c62 k62
  have b62 := F62.binds (ps := ps_l_below) fun _ _ _ _ _ _ us hl => match us, hl with | [_, _], _ => rfl
  have F63 := fun_mk (st := s_l_shuffled) l63 c63 k63
  have b63 := F63.binds (ps := ps_l_shuffled) fun _ _ _ _ _ _ us hl => match us, hl with | [_, _], _ => rfl
  have F64 := fun_mk (st := s_l_plan) l64 c64 k64
  have b64 := F64.binds (ps := ps_l_plan) fun _ _ _ _ _ _ us hl => match us, hl with | [_, _], _ => rfl
  have F65 := fun_mk (st := s_l_lines) l65 c65 k65
  have b65 := F65.binds (ps := ps_l_lines) fun _ _ _ _ _ _ us hl => match us, hl with | [_], _ => rfl
  have F66 := fun_mk (st := s_l_text) l66 c66 k66
  have b66 := F66.binds (ps := ps_l_text) fun _ _ _ _ _ _ us hl => match us, hl with | [_], _ => rfl
  have F67 := fun_mk (st := s_l_placed) l67 c67 k67
  have b67 := F67.binds (ps := ps_l_placed) fun _ _ _ _ _ _ us hl => match us, hl with | [_, _], _ => rfl
  have F68 := fun_mk (st := s_l_short) l68 c68 k68
  have b68 := F68.binds (ps := ps_l_short) fun _ _ _ _ _ _ us hl => match us, hl with | [_, _], _ => rfl
  have F69 := fun_mk (st := s_law) l69 c69 k69
  have b69 := F69.binds (ps := ps_law) fun _ _ _ _ _ _ us hl => match us, hl with | [_], _ => rfl
  refine ⟨PySem.W.fnOf "law" "law" (defArgs s_law) (defBody s_law) (defScope s_law) .none kV69 dc69 pm69 an69 cd69 ct69, fun s v => .of_eq rfl, fun base _ _ => ?_⟩
  have M_Token : Mk K a.cToken f1 := by rw [ha]; exact ⟨mk_Token, a1, i1, kc_Token⟩
  have M_Statement : Mk K a.cStatement f7 := by rw [ha]; exact ⟨mk_Statement, a7, i7, kc_Statement⟩
  have M_Reader : Mk K a.cReader f8 := by rw [ha]; exact ⟨mk_Reader, a8, i8, kc_Reader⟩
  have M_Plan : Mk K a.cPlan f19 := by rw [ha]; exact ⟨mk_Plan, a19, i19, kc_Plan⟩
  have M_Run : Mk K a.cRun f37 := by rw [ha]; exact ⟨mk_Run, a37, i37, kc_Run⟩
  have M_ByteReader : Mk K a.cByteReader f49 := by rw [ha]; exact ⟨mk_ByteReader, a49, i49, kc_ByteReader⟩
  have G_l_random : Cal l.prog w K mg base "_law_random" 1 f61 _ ps_l_random (sp_l_random K a) := ⟨ok_l_random F61 T , PySem.W.mg_of X G a61, k61, b61⟩
  have G_l_below : Cal l.prog w K mg base "_law_below" 1 f62 _ ps_l_below (sp_l_below K a) := ⟨ok_l_below F62 T , PySem.W.mg_of X G a62, k62, b62⟩
  have G_l_shuffled : Cal l.prog w K mg base "_law_shuffled" 2 f63 _ ps_l_shuffled (sp_l_shuffled K a) := ⟨ok_l_shuffled F63 T G_l_below, PySem.W.mg_of X G a63, k63, b63⟩
  have G_l_plan : Cal l.prog w K mg base "_law_plan" 3 f64 _ ps_l_plan (sp_l_plan K a) := ⟨ok_l_plan F64 T G_l_shuffled G_l_below, PySem.W.mg_of X G a64, k64, b64⟩
  have G_l_lines : Cal l.prog w K mg base "_law_lines" 1 f65 _ ps_l_lines (sp_l_lines K a) := ⟨ok_l_lines F65 T , PySem.W.mg_of X G a65, k65, b65⟩
  have G_l_text : Cal l.prog w K mg base "_law_text" 2 f66 _ ps_l_text (sp_l_text K a) := ⟨ok_l_text F66 T G_l_lines, PySem.W.mg_of X G a66, k66, b66⟩
  have G_l_placed : Cal l.prog w K mg base "_law_placed" 2 f67 _ ps_l_placed (sp_l_placed K a) := ⟨ok_l_placed F67 T G_l_below, PySem.W.mg_of X G a67, k67, b67⟩
  have G_ByteReader_init : CalM l.prog w K mg base 1 f49 _ ps_ByteReader_init (sp_ByteReader_init K a) := ⟨ok_ByteReader_init F49 T , b49⟩
  have G_Plan_init : CalM l.prog w K mg base 1 f19 _ ps_Plan_init (sp_Plan_init K a) := ⟨ok_Plan_init F19 T , b19⟩
  have G_is_integer : Cal l.prog w K mg base "is_integer" 1 f45 _ ps_is_integer (sp_is_integer K a) := ⟨ok_is_integer F45 T , PySem.W.mg_of X G a45, k45, b45⟩
  have ME_ByteReader_take : Meth K a.cByteReader "take" f50 := by rw [ha]; exact ⟨a50, i50, k50⟩
  have G_ByteReader_take : CalM l.prog w K mg base 2 f50 _ ps_ByteReader_take (sp_ByteReader_take K a) := ⟨ok_ByteReader_take F50 T G_is_integer, b50⟩
  have G_read_name : Cal l.prog w K mg base "read_name" 3 f56 _ ps_read_name (sp_read_name K a) := ⟨ok_read_name F56 T ME_ByteReader_take G_ByteReader_take, PySem.W.mg_of X G a56, k56, b56⟩
  have G_read_names_encoding : Cal l.prog w K mg base "read_names_encoding" 4 f55 _ ps_read_names_encoding (sp_read_names_encoding K a) := ⟨ok_read_names_encoding F55 T ME_ByteReader_take G_ByteReader_take G_read_name, PySem.W.mg_of X G a55, k55, b55⟩
  have G_read_start : Cal l.prog w K mg base "read_start" 3 f57 _ ps_read_start (sp_read_start K a) := ⟨ok_read_start F57 T ME_ByteReader_take G_ByteReader_take, PySem.W.mg_of X G a57, k57, b57⟩
  have G_read_rules : Cal l.prog w K mg base "read_rules" 3 f58 _ ps_read_rules (sp_read_rules K a) := ⟨ok_read_rules F58 T ME_ByteReader_take G_ByteReader_take, PySem.W.mg_of X G a58, k58, b58⟩
  have ME_ByteReader_end : Meth K a.cByteReader "end" f51 := by rw [ha]; exact ⟨a51, i51, k51⟩
  have G_ByteReader_end : CalM l.prog w K mg base 1 f51 _ ps_ByteReader_end (sp_ByteReader_end K a) := ⟨ok_ByteReader_end F51 T , b51⟩
  have G_rule_line : Cal l.prog w K mg base "rule_line" 1 f36 _ ps_rule_line (sp_rule_line K a) := ⟨ok_rule_line F36 T , PySem.W.mg_of X G a36, k36, b36⟩
  have G_canonical_text : Cal l.prog w K mg base "canonical_text" 2 f35 _ ps_canonical_text (sp_canonical_text K a) := ⟨ok_canonical_text F35 T G_rule_line, PySem.W.mg_of X G a35, k35, b35⟩
  have G_decode : Cal l.prog w K mg base "decode" 5 f54 _ ps_decode (sp_decode K a) := ⟨ok_decode F54 T M_ByteReader G_ByteReader_init M_Plan G_Plan_init ME_ByteReader_take G_ByteReader_take G_read_names_encoding G_read_start G_read_rules ME_ByteReader_end G_ByteReader_end G_canonical_text, PySem.W.mg_of X G a54, k54, b54⟩
  have G_require : Cal l.prog w K mg base "require" 1 f23 _ ps_require (sp_require K a) := ⟨ok_require F23 T , PySem.W.mg_of X G a23, k23, b23⟩
  have G_add_corridor : Cal l.prog w K mg base "add_corridor" 2 f24 _ ps_add_corridor (sp_add_corridor K a) := ⟨ok_add_corridor F24 T G_require, PySem.W.mg_of X G a24, k24, b24⟩
  have G_add_names : Cal l.prog w K mg base "add_names" 2 f27 _ ps_add_names (sp_add_names K a) := ⟨ok_add_names F27 T G_require, PySem.W.mg_of X G a27, k27, b27⟩
  have G_add_signs : Cal l.prog w K mg base "add_signs" 3 f25 _ ps_add_signs (sp_add_signs K a) := ⟨ok_add_signs F25 T G_add_names, PySem.W.mg_of X G a25, k25, b25⟩
  have G_add_moods : Cal l.prog w K mg base "add_moods" 3 f26 _ ps_add_moods (sp_add_moods K a) := ⟨ok_add_moods F26 T G_add_names, PySem.W.mg_of X G a26, k26, b26⟩
  have G_tile_of : Cal l.prog w K mg base "tile_of" 2 f31 _ ps_tile_of (sp_tile_of K a) := ⟨ok_tile_of F31 T G_require, PySem.W.mg_of X G a31, k31, b31⟩
  have G_add_robot : Cal l.prog w K mg base "add_robot" 3 f28 _ ps_add_robot (sp_add_robot K a) := ⟨ok_add_robot F28 T G_require G_tile_of, PySem.W.mg_of X G a28, k28, b28⟩
  have G_number_of : Cal l.prog w K mg base "number_of" 2 f32 _ ps_number_of (sp_number_of K a) := ⟨ok_number_of F32 T G_require, PySem.W.mg_of X G a32, k32, b32⟩
  have G_add_put : Cal l.prog w K mg base "add_put" 3 f29 _ ps_add_put (sp_add_put K a) := ⟨ok_add_put F29 T G_number_of G_tile_of G_require, PySem.W.mg_of X G a29, k29, b29⟩
  have G_add_rule : Cal l.prog w K mg base "add_rule" 3 f30 _ ps_add_rule (sp_add_rule K a) := ⟨ok_add_rule F30 T G_number_of G_require, PySem.W.mg_of X G a30, k30, b30⟩
  have AH : ∀ f sp, AddR a f sp → Held l.prog w K mg base 9 f sp := by
    rintro f sp ⟨kind, rfl, h⟩
    subst ha
    rcases h with ⟨rfl, rfl⟩ | ⟨rfl, rfl⟩ | ⟨rfl, rfl⟩ | ⟨rfl, rfl⟩ | ⟨rfl, rfl⟩ | ⟨rfl, rfl⟩
    · exact ⟨_, _, G_add_corridor.ok.mono (by decide), G_add_corridor.kp, G_add_corridor.b⟩
    · exact ⟨_, _, G_add_signs.ok.mono (by decide), G_add_signs.kp, G_add_signs.b⟩
    · exact ⟨_, _, G_add_moods.ok.mono (by decide), G_add_moods.kp, G_add_moods.b⟩
    · exact ⟨_, _, G_add_robot.ok.mono (by decide), G_add_robot.kp, G_add_robot.b⟩
    · exact ⟨_, _, G_add_put.ok.mono (by decide), G_add_put.kp, G_add_put.b⟩
    · exact ⟨_, _, G_add_rule.ok.mono (by decide), G_add_rule.kp, G_add_rule.b⟩
  have G_checked_plan : Cal l.prog w K mg base "checked_plan" 10 f22 _ ps_checked_plan (sp_checked_plan K a) := ⟨ok_checked_plan F22 T M_Plan G_Plan_init AH, PySem.W.mg_of X G a22, k22, b22⟩
  have G_run_end : Cal l.prog w K mg base "run_end" 1 f5 _ ps_run_end (sp_run_end K a) := ⟨ok_run_end F5 T , PySem.W.mg_of X G a5, k5, b5⟩
  have G_token_end : Cal l.prog w K mg base "token_end" 2 f4 _ ps_token_end (sp_token_end K a) := ⟨ok_token_end F4 T G_run_end, PySem.W.mg_of X G a4, k4, b4⟩
  have G_kind_of : Cal l.prog w K mg base "kind_of" 1 f6 _ ps_kind_of (sp_kind_of K a) := ⟨ok_kind_of F6 T , PySem.W.mg_of X G a6, k6, b6⟩
  have G_Token_init : CalM l.prog w K mg base 1 f1 _ ps_Token_init (sp_Token_init K a) := ⟨ok_Token_init F1 T , b1⟩
  have G_tokens_in : Cal l.prog w K mg base "tokens_in" 3 f3 _ ps_tokens_in (sp_tokens_in K a) := ⟨ok_tokens_in F3 T G_token_end G_kind_of M_Token G_Token_init, PySem.W.mg_of X G a3, k3, b3⟩
  have G_tokens_of : Cal l.prog w K mg base "tokens_of" 4 f2 _ ps_tokens_of (sp_tokens_of K a) := ⟨ok_tokens_of F2 T G_tokens_in, PySem.W.mg_of X G a2, k2, b2⟩
  have G_Reader_init : CalM l.prog w K mg base 5 f8 _ ps_Reader_init (sp_Reader_init K a) := ⟨ok_Reader_init F8 T G_tokens_of, b8⟩
  have ME_Reader_ended : Meth K a.cReader "ended" f9 := by rw [ha]; exact ⟨a9, i9, k9⟩
  have G_Reader_ended : CalM l.prog w K mg base 1 f9 _ ps_Reader_ended (sp_Reader_ended K a) := ⟨ok_Reader_ended F9 T , b9⟩
  have ME_Reader_take : Meth K a.cReader "take" f11 := by rw [ha]; exact ⟨a11, i11, k11⟩
  have G_Reader_take : FnR l.prog w K mg base CX0 2 f11 (sp_Reader_take_r K a) := ok_Reader_take F11 T ME_Reader_ended G_Reader_ended
  have G_Statement_init : CalM l.prog w K mg base 1 f7 _ ps_Statement_init (sp_Statement_init K a) := ⟨ok_Statement_init F7 T , b7⟩
  have G_read_corridor : Cal l.prog w K mg base "read_corridor" 3 f13 _ ps_read_corridor (sp_read_corridor K a) := ⟨ok_read_corridor F13 T ME_Reader_take G_Reader_take M_Statement G_Statement_init, PySem.W.mg_of X G a13, k13, b13⟩
  have ME_Reader_sees : Meth K a.cReader "sees" f10 := by rw [ha]; exact ⟨a10, i10, k10⟩
  have G_Reader_sees : CalM l.prog w K mg base 2 f10 _ ps_Reader_sees (sp_Reader_sees K a) := ⟨ok_Reader_sees F10 T ME_Reader_ended G_Reader_ended, b10⟩
  have G_read_names : Cal l.prog w K mg base "read_names_parser" 3 f14 _ ps_read_names (sp_read_names K a) := ⟨ok_read_names F14 T ME_Reader_take G_Reader_take ME_Reader_sees G_Reader_sees M_Statement G_Statement_init, PySem.W.mg_of X G a14, k14, b14⟩
  have G_read_robot : Cal l.prog w K mg base "read_robot" 3 f16 _ ps_read_robot (sp_read_robot K a) := ⟨ok_read_robot F16 T ME_Reader_take G_Reader_take M_Statement G_Statement_init, PySem.W.mg_of X G a16, k16, b16⟩
  have G_read_put : Cal l.prog w K mg base "read_put" 3 f17 _ ps_read_put (sp_read_put K a) := ⟨ok_read_put F17 T ME_Reader_take G_Reader_take M_Statement G_Statement_init, PySem.W.mg_of X G a17, k17, b17⟩
  have G_read_rule : Cal l.prog w K mg base "read_rule" 3 f18 _ ps_read_rule (sp_read_rule K a) := ⟨ok_read_rule F18 T ME_Reader_take G_Reader_take M_Statement G_Statement_init, PySem.W.mg_of X G a18, k18, b18⟩
  have G_read_statement : Cal l.prog w K mg base "read_statement" 4 f15 _ ps_read_statement (sp_read_statement K a) := ⟨ok_read_statement F15 T ME_Reader_sees G_Reader_sees G_read_put G_read_rule G_read_robot, PySem.W.mg_of X G a15, k15, b15⟩
  have G_parse : Cal l.prog w K mg base "parse" 7 f12 _ ps_parse (sp_parse K a) := ⟨ok_parse F12 T M_Reader G_Reader_init G_read_corridor G_read_names G_read_robot ME_Reader_ended G_Reader_ended G_read_statement, PySem.W.mg_of X G a12, k12, b12⟩
  have G_read_plan : Cal l.prog w K mg base "read_plan" 11 f20 _ ps_read_plan (sp_read_plan K a) := ⟨ok_read_plan F20 T G_checked_plan G_parse, PySem.W.mg_of X G a20, k20, b20⟩
  have G_names_code : Cal l.prog w K mg base "names_code" 1 f53 _ ps_names_code (sp_names_code K a) := ⟨ok_names_code F53 T , PySem.W.mg_of X G a53, k53, b53⟩
  have G_encode : Cal l.prog w K mg base "encode" 12 f52 _ ps_encode (sp_encode K a) := ⟨ok_encode F52 T G_read_plan G_names_code, PySem.W.mg_of X G a52, k52, b52⟩
  have G_format_plan : Cal l.prog w K mg base "format_plan" 12 f33 _ ps_format_plan (sp_format_plan K a) := ⟨ok_format_plan F33 T G_canonical_text G_read_plan, PySem.W.mg_of X G a33, k33, b33⟩
  have G_signs_of : Cal l.prog w K mg base "signs_of" 12 f34 _ ps_signs_of (sp_signs_of K a) := ⟨ok_signs_of F34 T G_read_plan, PySem.W.mg_of X G a34, k34, b34⟩
  have G_l_short : Cal l.prog w K mg base "_law_short" 4 f68 _ ps_l_short (sp_l_short K a) := ⟨ok_l_short F68 T G_l_plan, PySem.W.mg_of X G a68, k68, b68⟩
  have G_check_tick : Cal l.prog w K mg base "check_tick" 2 f46 _ ps_check_tick (sp_check_tick K a) := ⟨ok_check_tick F46 T G_is_integer, PySem.W.mg_of X G a46, k46, b46⟩
  have G_first_situation : Cal l.prog w K mg base "first_situation" 1 f40 _ ps_first_situation (sp_first_situation K a) := ⟨ok_first_situation F40 T , PySem.W.mg_of X G a40, k40, b40⟩
  have G_moved : Cal l.prog w K mg base "moved" 1 f43 _ ps_moved (sp_moved K a) := ⟨ok_moved F43 T , PySem.W.mg_of X G a43, k43, b43⟩
  have G_act : Cal l.prog w K mg base "act" 2 f42 _ ps_act (sp_act K a) := ⟨ok_act F42 T G_moved, PySem.W.mg_of X G a42, k42, b42⟩
  have G_perform : Cal l.prog w K mg base "perform" 3 f41 _ ps_perform (sp_perform K a) := ⟨ok_perform F41 T G_act, PySem.W.mg_of X G a41, k41, b41⟩
  have G_Run_init : CalM l.prog w K mg base 4 f37 _ ps_Run_init (sp_Run_init K a) := ⟨ok_Run_init F37 T G_first_situation G_perform, b37⟩
  have G_first_in_cycle : Cal l.prog w K mg base "first_in_cycle" 1 f39 _ ps_first_in_cycle (sp_first_in_cycle K a) := ⟨ok_first_in_cycle F39 T , PySem.W.mg_of X G a39, k39, b39⟩
  have ME_Run_first_like : Meth K a.cRun "first_like" f38 := by rw [ha]; exact ⟨a38, i38, k38⟩
  have G_Run_first_like : CalM l.prog w K mg base 2 f38 _ ps_Run_first_like (sp_Run_first_like K a) := ⟨ok_Run_first_like F38 T G_first_in_cycle, b38⟩
  have G_situation_after : Cal l.prog w K mg base "situation_after" 6 f60 _ ps_situation_after (sp_situation_after K a) := ⟨ok_situation_after F60 T G_check_tick M_Run G_Run_init ME_Run_first_like G_Run_first_like B_check_tick_1 V_check_tick_1, PySem.W.mg_of X G a60, k60, b60⟩
  have G_robot_tuples : Cal l.prog w K mg base "robot_tuples" 1 f44 _ ps_robot_tuples (sp_robot_tuples K a) := ⟨ok_robot_tuples F44 T , PySem.W.mg_of X G a44, k44, b44⟩
  have G_robots_in : Cal l.prog w K mg base "robots_in" 12 f59 _ ps_robots_in (sp_robots_in K a) := ⟨ok_robots_in F59 T G_read_plan G_situation_after G_robot_tuples, PySem.W.mg_of X G a59, k59, b59⟩
  have G_read_plans : Cal l.prog w K mg base "read_plans" 11 f21 _ ps_read_plans (sp_read_plans K a) := ⟨ok_read_plans F21 T G_parse G_checked_plan, PySem.W.mg_of X G a21, k21, b21⟩
  have G_signs_after : Cal l.prog w K mg base "signs_after" 3 f48 _ ps_signs_after (sp_signs_after K a) := ⟨ok_signs_after F48 T ME_Run_first_like G_Run_first_like, PySem.W.mg_of X G a48, k48, b48⟩
  have G_first_difference : Cal l.prog w K mg base "first_difference" 12 f47 _ ps_first_difference (sp_first_difference K a) := ⟨ok_first_difference F47 T G_read_plans M_Run G_Run_init G_signs_after, PySem.W.mg_of X G a47, k47, b47⟩
  exact ok_law F69 T G_l_random G_l_plan G_l_lines G_l_text G_l_placed G_l_below G_l_shuffled G_decode G_encode G_format_plan G_signs_of G_l_short G_robots_in G_first_difference
end Sw
set_option maxRecDepth 100000 in
set_option maxHeartbeats 0 in
theorem PySem.Challenge.cw_sweeprota_k36_whole_texts_of_one_plan_holds : PySem.Challenge.rw_sweeprota_k36_whole_texts_of_one_plan.Holds :=
  head36 (by
    k_fill
    refine L2.walk_of (n := 63) (k := 13) (x := "_law_script") (CX := fun _ => L2.CX0) (sp := fun w => Sw.spLaw (head36.heap_39 w.params)) rfl (by decide) rfl ⟨rfl, by decide, by decide⟩ (fun w h Y => PySem.W.kIn_of Y) ?F (fun _ _ a ns hl _ hS => ⟨a, ns, rfl, hS, hl, fun _ => rfl⟩) fun _ _ _ _ _ z => z
    case F =>
      intro w mg fa h KX G hmg
      refine' Sw.all_mk KX G hmg ?ca_Token ?pg_Token ?hd_Token ?po_Token ?sa_Token ?mk_Token ?kc_Token ?na_Token_kind ?na_Token_text ?na_Token_line ?na_Token_column ?ca_Statement ?pg_Statement ?hd_Statement ?po_Statement ?sa_Statement ?mk_Statement ?kc_Statement ?na_Statement_word ?na_Statement_parts ?ca_Reader ?pg_Reader ?hd_Reader ?po_Reader ?sa_Reader ?mk_Reader ?kc_Reader ?na_Reader_tokens ?na_Reader_lines ?na_Reader_at ?ca_Plan ?pg_Plan ?hd_Plan ?po_Plan ?sa_Plan ?mk_Plan ?kc_Plan ?na_Plan_size ?na_Plan_signs ?na_Plan_moods ?na_Plan_robots ?na_Plan_puts ?na_Plan_rules ?ca_Run ?pg_Run ?hd_Run ?po_Run ?sa_Run ?mk_Run ?kc_Run ?na_Run_situations ?na_Run_words ?na_Run_start ?na_Run_length ?ca_ByteReader ?pg_ByteReader ?hd_ByteReader ?po_ByteReader ?sa_ByteReader ?mk_ByteReader ?kc_ByteReader ?na_ByteReader_code ?na_ByteReader_place ?a1 ?i1 ?l1 ?c1 ?k1 ?a2 ?l2 ?c2 ?k2 ?a3 ?l3 ?c3 ?k3 ?a4 ?l4 ?c4 ?k4 ?a5 ?l5 ?c5 ?k5 ?a6 ?l6 ?c6 ?k6 ?a7 ?i7 ?l7 ?c7 ?k7 ?a8 ?i8 ?l8 ?c8 ?k8 ?a9 ?i9 ?l9 ?c9 ?k9 ?a10 ?i10 ?l10 ?c10 ?k10 ?a11 ?i11 ?l11 ?c11 ?k11 ?a12 ?l12 ?c12 ?k12 ?a13 ?l13 ?c13 ?k13 ?a14 ?l14 ?c14 ?k14 ?a15 ?l15 ?c15 ?k15 ?a16 ?l16 ?c16 ?k16 ?a17 ?l17 ?c17 ?k17 ?a18 ?l18 ?c18 ?k18 ?a19 ?i19 ?l19 ?c19 ?k19 ?a20 ?l20 ?c20 ?k20 ?a21 ?l21 ?c21 ?k21 ?a22 ?l22 ?c22 ?k22 ?a23 ?l23 ?c23 ?k23 ?a24 ?l24 ?c24 ?k24 ?a25 ?l25 ?c25 ?k25 ?a26 ?l26 ?c26 ?k26 ?a27 ?l27 ?c27 ?k27 ?a28 ?l28 ?c28 ?k28 ?a29 ?l29 ?c29 ?k29 ?a30 ?l30 ?c30 ?k30 ?a31 ?l31 ?c31 ?k31 ?a32 ?l32 ?c32 ?k32 ?a33 ?l33 ?c33 ?k33 ?a34 ?l34 ?c34 ?k34 ?a35 ?l35 ?c35 ?k35 ?a36 ?l36 ?c36 ?k36 ?a37 ?i37 ?l37 ?c37 ?k37 ?a38 ?i38 ?l38 ?c38 ?k38 ?a39 ?l39 ?c39 ?k39 ?a40 ?l40 ?c40 ?k40 ?a41 ?l41 ?c41 ?k41 ?a42 ?l42 ?c42 ?k42 ?a43 ?l43 ?c43 ?k43 ?a44 ?l44 ?c44 ?k44 ?a45 ?l45 ?c45 ?k45 ?a46 ?l46 ?ld46 ?c46 ?k46 ?a47 ?l47 ?c47 ?k47 ?a48 ?l48 ?c48 ?k48 ?a49 ?i49 ?l49 ?c49 ?k49 ?a50 ?i50 ?l50 ?c50 ?k50 ?a51 ?i51 ?l51 ?c51 ?k51 ?a52 ?l52 ?c52 ?k52 ?a53 ?l53 ?c53 ?k53 ?a54 ?l54 ?c54 ?k54 ?a55 ?l55 ?c55 ?k55 ?a56 ?l56 ?c56 ?k56 ?a57 ?l57 ?c57 ?k57 ?a58 ?l58 ?c58 ?k58 ?a59 ?l59 ?c59 ?k59 ?a60 ?l60 ?c60 ?k60 ?a61 ?l61 ?c61 ?k61 ?a62 ?l62 ?c62 ?k62 ?a63 ?l63 ?c63 ?k63 ?a64 ?l64 ?c64 ?k64 ?a65 ?l65 ?c65 ?k65 ?a66 ?l66 ?c66 ?k66 ?a67 ?l67 ?c67 ?k67 ?a68 ?l68 ?c68 ?k68 ?a69 ?l69 ?c69 ?k69 ?g_LETTERS ?g_DIGITS ?g_KEYWORDS ?lt_KEYWORDS ?g_LONGEST_WORD ?g_LONGEST_NUMBER ?g_MOST_TILES ?g_MOST_SIGNS ?g_MOST_MOODS ?g_MOST_ROBOTS ?g_SIDES ?lt_SIDES ?g_MOVES ?lt_MOVES ?g_ADDERS ?ld_ADDERS ?kd_ADDERS ?e_ADDERS_corridor ?e_ADDERS_signs ?e_ADDERS_moods ?e_ADDERS_robot ?e_ADDERS_put ?e_ADDERS_when ?g_LEFT ?g_BACK ?g_STAY ?g_LAST_REPEAT ?g_LAST_TICK ?g_MARK ?g_BYTES ?z_ValueError ?z_abs ?z_bool ?z_enumerate ?z_int ?z_isinstance ?z_len ?z_list ?z_max ?z_min ?z_range ?z_sorted ?z_str ?z_sum ?z_super ?z_tuple
      (case ca_Token => k_is)
      (case pg_Token => k_is)
      (case hd_Token => k_is)
      (case po_Token => k_is)
      (case sa_Token => k_is)
      (case mk_Token => k_is)
      (case kc_Token => k_is)
      (case na_Token_kind => k_is)
      (case na_Token_text => k_is)
      (case na_Token_line => k_is)
      (case na_Token_column => k_is)
      (case ca_Statement => k_is)
      (case pg_Statement => k_is)
      (case hd_Statement => k_is)
      (case po_Statement => k_is)
      (case sa_Statement => k_is)
      (case mk_Statement => k_is)
      (case kc_Statement => k_is)
      (case na_Statement_word => k_is)
      (case na_Statement_parts => k_is)
      (case ca_Reader => k_is)
      (case pg_Reader => k_is)
      (case hd_Reader => k_is)
      (case po_Reader => k_is)
      (case sa_Reader => k_is)
      (case mk_Reader => k_is)
      (case kc_Reader => k_is)
      (case na_Reader_tokens => k_is)
      (case na_Reader_lines => k_is)
      (case na_Reader_at => k_is)
      (case ca_Plan => k_is)
      (case pg_Plan => k_is)
      (case hd_Plan => k_is)
      (case po_Plan => k_is)
      (case sa_Plan => k_is)
      (case mk_Plan => k_is)
      (case kc_Plan => k_is)
      (case na_Plan_size => k_is)
      (case na_Plan_signs => k_is)
      (case na_Plan_moods => k_is)
      (case na_Plan_robots => k_is)
      (case na_Plan_puts => k_is)
      (case na_Plan_rules => k_is)
      (case ca_Run => k_is)
      (case pg_Run => k_is)
      (case hd_Run => k_is)
      (case po_Run => k_is)
      (case sa_Run => k_is)
      (case mk_Run => k_is)
      (case kc_Run => k_is)
      (case na_Run_situations => k_is)
      (case na_Run_words => k_is)
      (case na_Run_start => k_is)
      (case na_Run_length => k_is)
      (case ca_ByteReader => k_is)
      (case pg_ByteReader => k_is)
      (case hd_ByteReader => k_is)
      (case po_ByteReader => k_is)
      (case sa_ByteReader => k_is)
      (case mk_ByteReader => k_is)
      (case kc_ByteReader => k_is)
      (case na_ByteReader_code => k_is)
      (case na_ByteReader_place => k_is)
      (case a1 => k_is)
      (case i1 => k_is)
      (case l1 => k_is)
      (case c1 => k_is)
      (case k1 => k_is)
      (case a2 => k_is)
      (case l2 => k_is)
      (case c2 => k_is)
      (case k2 => k_is)
      (case a3 => k_is)
      (case l3 => k_is)
      (case c3 => k_is)
      (case k3 => k_is)
      (case a4 => k_is)
      (case l4 => k_is)
      (case c4 => k_is)
      (case k4 => k_is)
      (case a5 => k_is)
      (case l5 => k_is)
      (case c5 => k_is)
      (case k5 => k_is)
      (case a6 => k_is)
      (case l6 => k_is)
      (case c6 => k_is)
      (case k6 => k_is)
      (case a7 => k_is)
      (case i7 => k_is)
      (case l7 => k_is)
      (case c7 => k_is)
      (case k7 => k_is)
      (case a8 => k_is)
      (case i8 => k_is)
      (case l8 => k_is)
      (case c8 => k_is)
      (case k8 => k_is)
      (case a9 => k_is)
      (case i9 => k_is)
      (case l9 => k_is)
      (case c9 => k_is)
      (case k9 => k_is)
      (case a10 => k_is)
      (case i10 => k_is)
      (case l10 => k_is)
      (case c10 => k_is)
      (case k10 => k_is)
      (case a11 => k_is)
      (case i11 => k_is)
      (case l11 => k_is)
      (case c11 => k_is)
      (case k11 => k_is)
      (case a12 => k_is)
      (case l12 => k_is)
      (case c12 => k_is)
      (case k12 => k_is)
      (case a13 => k_is)
      (case l13 => k_is)
      (case c13 => k_is)
      (case k13 => k_is)
      (case a14 => k_is)
      (case l14 => k_is)
      (case c14 => k_is)
      (case k14 => k_is)
      (case a15 => k_is)
      (case l15 => k_is)
      (case c15 => k_is)
      (case k15 => k_is)
      (case a16 => k_is)
      (case l16 => k_is)
      (case c16 => k_is)
      (case k16 => k_is)
      (case a17 => k_is)
      (case l17 => k_is)
      (case c17 => k_is)
      (case k17 => k_is)
      (case a18 => k_is)
      (case l18 => k_is)
      (case c18 => k_is)
      (case k18 => k_is)
      (case a19 => k_is)
      (case i19 => k_is)
      (case l19 => k_is)
      (case c19 => k_is)
      (case k19 => k_is)
      (case a20 => k_is)
      (case l20 => k_is)
      (case c20 => k_is)
      (case k20 => k_is)
      (case a21 => k_is)
      (case l21 => k_is)
      (case c21 => k_is)
      (case k21 => k_is)
      (case a22 => k_is)
      (case l22 => k_is)
      (case c22 => k_is)
      (case k22 => k_is)
      (case a23 => k_is)
      (case l23 => k_is)
      (case c23 => k_is)
      (case k23 => k_is)
      (case a24 => k_is)
      (case l24 => k_is)
      (case c24 => k_is)
      (case k24 => k_is)
      (case a25 => k_is)
      (case l25 => k_is)
      (case c25 => k_is)
      (case k25 => k_is)
      (case a26 => k_is)
      (case l26 => k_is)
      (case c26 => k_is)
      (case k26 => k_is)
      (case a27 => k_is)
      (case l27 => k_is)
      (case c27 => k_is)
      (case k27 => k_is)
      (case a28 => k_is)
      (case l28 => k_is)
      (case c28 => k_is)
      (case k28 => k_is)
      (case a29 => k_is)
      (case l29 => k_is)
      (case c29 => k_is)
      (case k29 => k_is)
      (case a30 => k_is)
      (case l30 => k_is)
      (case c30 => k_is)
      (case k30 => k_is)
      (case a31 => k_is)
      (case l31 => k_is)
      (case c31 => k_is)
      (case k31 => k_is)
      (case a32 => k_is)
      (case l32 => k_is)
      (case c32 => k_is)
      (case k32 => k_is)
      (case a33 => k_is)
      (case l33 => k_is)
      (case c33 => k_is)
      (case k33 => k_is)
      (case a34 => k_is)
      (case l34 => k_is)
      (case c34 => k_is)
      (case k34 => k_is)
      (case a35 => k_is)
      (case l35 => k_is)
      (case c35 => k_is)
      (case k35 => k_is)
      (case a36 => k_is)
      (case l36 => k_is)
      (case c36 => k_is)
      (case k36 => k_is)
      (case a37 => k_is)
      (case i37 => k_is)
      (case l37 => k_is)
      (case c37 => k_is)
      (case k37 => k_is)
      (case a38 => k_is)
      (case i38 => k_is)
      (case l38 => k_is)
      (case c38 => k_is)
      (case k38 => k_is)
      (case a39 => k_is)
      (case l39 => k_is)
      (case c39 => k_is)
      (case k39 => k_is)
      (case a40 => k_is)
      (case l40 => k_is)
      (case c40 => k_is)
      (case k40 => k_is)
      (case a41 => k_is)
      (case l41 => k_is)
      (case c41 => k_is)
      (case k41 => k_is)
      (case a42 => k_is)
      (case l42 => k_is)
      (case c42 => k_is)
      (case k42 => k_is)
      (case a43 => k_is)
      (case l43 => k_is)
      (case c43 => k_is)
      (case k43 => k_is)
      (case a44 => k_is)
      (case l44 => k_is)
      (case c44 => k_is)
      (case k44 => k_is)
      (case a45 => k_is)
      (case l45 => k_is)
      (case c45 => k_is)
      (case k45 => k_is)
      (case a46 => k_is)
      (case l46 => k_is)
      (case ld46 => k_is)
      (case c46 => k_is)
      (case k46 => k_is)
      (case a47 => k_is)
      (case l47 => k_is)
      (case c47 => k_is)
      (case k47 => k_is)
      (case a48 => k_is)
      (case l48 => k_is)
      (case c48 => k_is)
      (case k48 => k_is)
      (case a49 => k_is)
      (case i49 => k_is)
      (case l49 => k_is)
      (case c49 => k_is)
      (case k49 => k_is)
      (case a50 => k_is)
      (case i50 => k_is)
      (case l50 => k_is)
      (case c50 => k_is)
      (case k50 => k_is)
      (case a51 => k_is)
      (case i51 => k_is)
      (case l51 => k_is)
      (case c51 => k_is)
      (case k51 => k_is)
      (case a52 => k_is)
      (case l52 => k_is)
      (case c52 => k_is)
      (case k52 => k_is)
      (case a53 => k_is)
      (case l53 => k_is)
      (case c53 => k_is)
      (case k53 => k_is)
      (case a54 => k_is)
      (case l54 => k_is)
      (case c54 => k_is)
      (case k54 => k_is)
      (case a55 => k_is)
      (case l55 => k_is)
      (case c55 => k_is)
      (case k55 => k_is)
      (case a56 => k_is)
      (case l56 => k_is)
      (case c56 => k_is)
      (case k56 => k_is)
      (case a57 => k_is)
      (case l57 => k_is)
      (case c57 => k_is)
      (case k57 => k_is)
      (case a58 => k_is)
      (case l58 => k_is)
      (case c58 => k_is)
      (case k58 => k_is)
      (case a59 => k_is)
      (case l59 => k_is)
      (case c59 => k_is)
      (case k59 => k_is)
      (case a60 => k_is)
      (case l60 => k_is)
      (case c60 => k_is)
      (case k60 => k_is)
      (case a61 => k_is)
      (case l61 => k_is)
      (case c61 => k_is)
      (case k61 => k_is)
      (case a62 => k_is)
      (case l62 => k_is)
      (case c62 => k_is)
      (case k62 => k_is)
      (case a63 => k_is)
      (case l63 => k_is)
      (case c63 => k_is)
      (case k63 => k_is)
      (case a64 => k_is)
      (case l64 => k_is)
      (case c64 => k_is)
      (case k64 => k_is)
      (case a65 => k_is)
      (case l65 => k_is)
      (case c65 => k_is)
      (case k65 => k_is)
      (case a66 => k_is)
      (case l66 => k_is)
      (case c66 => k_is)
      (case k66 => k_is)
      (case a67 => k_is)
      (case l67 => k_is)
      (case c67 => k_is)
      (case k67 => k_is)
      (case a68 => k_is)
      (case l68 => k_is)
      (case c68 => k_is)
      (case k68 => k_is)
      (case a69 => k_is)
      (case l69 => k_is)
      (case c69 => k_is)
      (case k69 => k_is)
      (case g_LETTERS => k_is)
      (case g_DIGITS => k_is)
      (case g_KEYWORDS => k_is)
      (case lt_KEYWORDS => k_is)
      (case g_LONGEST_WORD => k_is)
      (case g_LONGEST_NUMBER => k_is)
      (case g_MOST_TILES => k_is)
      (case g_MOST_SIGNS => k_is)
      (case g_MOST_MOODS => k_is)
      (case g_MOST_ROBOTS => k_is)
      (case g_SIDES => k_is)
      (case lt_SIDES => k_is)
      (case g_MOVES => k_is)
      (case lt_MOVES => k_is)
      (case g_ADDERS => k_is)
      (case ld_ADDERS => k_is)
      (case kd_ADDERS => k_keys)
      (case e_ADDERS_corridor => k_is)
      (case e_ADDERS_signs => k_is)
      (case e_ADDERS_moods => k_is)
      (case e_ADDERS_robot => k_is)
      (case e_ADDERS_put => k_is)
      (case e_ADDERS_when => k_is)
      (case g_LEFT => k_is)
      (case g_BACK => k_is)
      (case g_STAY => k_is)
      (case g_LAST_REPEAT => k_is)
      (case g_LAST_TICK => k_is)
      (case g_MARK => k_is)
      (case g_BYTES => k_is)
      (case z_ValueError => k_is)
      (case z_abs => k_is)
      (case z_bool => k_is)
      (case z_enumerate => k_is)
      (case z_int => k_is)
      (case z_isinstance => k_is)
      (case z_len => k_is)
      (case z_list => k_is)
      (case z_max => k_is)
      (case z_min => k_is)
      (case z_range => k_is)
      (case z_sorted => k_is)
      (case z_str => k_is)
      (case z_sum => k_is)
      (case z_super => k_is)
      (case z_tuple => k_is))
