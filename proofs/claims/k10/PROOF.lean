import PyProof.Rows.All
import Wide.All
import OpenK.AllK
import Wide.FinOn
import HandS.ForMost
import HandS.IsInst
import HandS.More
import HandS.Star
import HandS.TupAny
import HandS.TupMul
import HandS.Style
import HandS.Wide
import PyProof.StrOps2
import PyProof.Rows.StrMeet
import HandS.Evl
import KE.DataEq
import HandS.ForExc
import HandS.ExcIs
import HandS.HotCalls
import HandS.FStr
import HandS.Small
import HandS.DictComp
import HandS.SetFor
import KE.DataCmp
import HandS.Gcd
import HandS.CallLocal
import HandS.Defaults
import HandS.Head0
import HandS.Head1
import HandS.Head2
import HandS.Head3
import HandS.HeadEnd
import HandS.HeadHook1
import HandS.HeadHook2
import HandS.HeadHook3
import HandS.Words
import HandS.Text
import PyProof.JoinWalk
import KE.KRevIter
import HandS.Rev
import HandS.RevTup
import PyProof.MaxThree
import HandS.SortKw
import HandS.StrMore
import HandS.Flow
import PySem.Challenge.RW_somenumber_k10_notes
set_option Elab.async false
set_option linter.all false
set_option maxRecDepth 100000
set_option maxHeartbeats 4000000
namespace XS
open PySem PySem.Spec PyProof.Rows L2

/-! ### defs by their names -/
/-- the def named nm stands in the module's names -/
def FunAt (K : PySem.W.Frag) (mg : Str → Option Value) (nm : Str) (st : Stmt) (ps : List Str) : Prop :=
  ∃ f fd, Fun K nm nm st f fd ∧ mg nm = some (.ref f) ∧ Binds K fd ps []
/-- the def named nm keeps the promise sp -/
def DefAt (P : Program) (w : World) (K : PySem.W.Frag) (mg : Str → Option Value) (base : Heap) (CX : CXT) (k : Nat) (nm : Str) (ps : List Str) (sp : Sp) : Prop :=
  ∃ f fd, FnOk P w K mg base CX k f fd ps sp ∧ mg nm = some (.ref f) ∧ PySem.W.keepIn K (.ref f) = true ∧ Binds K fd ps []
section
variable {P : Program} {w : World} {K : PySem.W.Frag} {mg : Str → Option Value} {base : Heap} {nm : Str} {st : Stmt} {ps N : List Str} {sp sp' : Sp} {k j : Nat} {CXX : CXT}
theorem DefAt.mono (D : DefAt P w K mg base CXX j nm ps sp) (h : j ≤ k) : DefAt P w K mg base CXX k nm ps sp := by
  obtain ⟨f, fd, F, a, b, c⟩ := D
  exact ⟨f, fd, F.mono h, a, b, c⟩
theorem DefAt.imp (D : DefAt P w K mg base CXX k nm ps sp) (h : ∀ vs H Q E, sp' vs H Q E → sp vs H Q E) : DefAt P w K mg base CXX k nm ps sp' := by
  obtain ⟨f, fd, F, a, b, c⟩ := D
  exact ⟨f, fd, F.imp h, a, b, c⟩
/-- a promise by the body's reading, where nothing is raised -/
theorem FunAt.ok (F : FunAt K mg nm st ps) (S : FnScope N ps (defScope st)) (len : ∀ vs H Q E, sp vs H Q E → vs.length = ps.length)
    (hbody : ∀ (f : Addr) (cdv : Value) (A : Around) (outer : List Env) (s : Shared) (H : Hp) (vs : List V) (Q : VK) (E : XK), Room k (A.deeper (envOfC nm (defScope st) s.heap.objs.size f cdv)) → sp vs H Q E →
      ∃ t, PSs (cxOf CX0 P w K mg base N nm (defScope st) f cdv A outer s H E).nox (defBody st) t ∧ t { nx := fun _ H' => Q .non H', rt := Q } (start N vs) H) : DefAt P w K mg base CX0 (k + 1) nm ps sp := by
  obtain ⟨f, fd, F, a, b⟩ := F
  exact ⟨f, fd, F.ok S len (hbody f), a, F.kp, b⟩
/-- a promise that nobody can ask -/
theorem FunAt.never (F : FunAt K mg nm st ps) (no : ∀ vs H Q E, ¬ sp vs H Q E) : DefAt P w K mg base CXX k nm ps sp := by
  obtain ⟨f, fd, F, a, b⟩ := F
  exact ⟨f, fd, ⟨fun vs H Q E h => absurd h (no vs H Q E), fun A outer s H args us vs Q E _ _ _ _ h => absurd h (no vs H Q E)⟩, a, F.kp, b⟩
end
section
variable {X : Cx} {CXX : CXT} {k : Nat} {ps : List Str} {sp : Sp} {E : XK} {x : Str} {e : Expr} {es : List Expr} {t : TA} {p pos : Pos}
theorem pe_callD (D : DefAt X.prog X.w X.K X.mg X.base CXX k x ps sp) (hr : Room k X.A) (hg : Gl X x) (hx : Passes CXX X E) (ha : PA X (e :: es) t) (hdb : (x == ("__debug__" : Str)) = false := by decide)
    (he : starEach (e :: es) X.env = (false, eval e X.env) :: starEach es X.env := by rfl) (hpl : (backTo pos (starEach es X.env)).any (·.1) = false := by rfl) : PE X (.Call (.Name x p) (e :: es) [] pos) (tCall sp [] E t) := by
  obtain ⟨f, fd, F, a, b, c⟩ := D
  exact pe_call F hr hg a b c .nil hx ha hdb he hpl
end

/-! ### text times number -/
def repS (x : Str) (n : Nat) : Str := ⟨(List.replicate n x.cps.toList).flatten.toArray⟩
theorem repS_len (x : Str) (n : Nat) : (repS x n).length = n * x.length := by
  show (List.replicate n x.cps.toList).flatten.toArray.size = n * x.cps.size
  simp
theorem foldl_cps (c : Array Nat) : ∀ (m : Nat) (acc : Array Nat), (List.replicate m c).foldl (· ++ ·) acc = acc ++ (List.replicate m c.toList).flatten.toArray
  | 0, acc => by simp
  | m + 1, acc => by
    rw [List.replicate_succ, List.foldl_cons, foldl_cps c m, List.replicate_succ, List.flatten_cons]
    apply Array.ext'
    simp
def rRepS : R2 := fun x y H Q => ∃ z k, x = .str z ∧ y = .int k ∧ 1 ≤ k ∧ k ≤ 1000 ∧ z.length ≤ 1000 ∧ Q (.str (repS z k.toNat)) H
theorem op_repS {X : Cx} : OpR X (binaryOp .Mult) rRepS := by
  intro pins s σ H x y v u Q I rx ry h
  obtain ⟨z, k, rfl, rfl, h1, h2, hz, q⟩ := h
  obtain ⟨t, rfl⟩ := rx
  obtain ⟨t2, rfl⟩ := ry
  refine PySem.P.mul_str (by simp; omega) (fun _ _ => ?_) (fun _ _ => ?_) ?_
  · have h3 : (z.length : Int) * k ≤ 1000 * 1000 := Int.mul_le_mul (by omega) h2 (by omega) (by omega)
    have h4 : (z.length : Int) ≤ (2 ^ 63 - 1) / k := Int.le_ediv_of_mul_le (by omega) (by omega)
    have h5 : ((2 : Int) ^ 63 - 1) / k = (2 ^ 63 - 1) / k := rfl
    omega
  · have h3 : z.length * k.toNat ≤ 1000 * 1000 := Nat.mul_le_mul hz (by omega)
    unfold PySem.Builtin.Str.tooLong
    simp
    have : sizeLine = 16777216 := sizeLine_eq
    omega
  · rw [if_neg (by omega)]
    by_cases hb : (k == 1 || z.length == 0) = true
    · rw [if_pos hb]
      have e : repS z k.toNat = z := by
        unfold repS
        simp only [Bool.or_eq_true, beq_iff_eq] at hb
        rcases hb with hb | hb
        · subst hb
          simp
        · have h0 : z.cps.toList = [] := by
            have : z.cps.size = 0 := hb
            simp at this
            simp [this]
          rw [h0]
          have : (List.replicate k.toNat ([] : List Nat)).flatten = [] := by simp
          rw [this]
          have h1 : z.cps = #[] := by
            have : z.cps.size = 0 := hb
            simpa using this
          cases z
          simp at h1
          subst h1
          rfl
      rw [e] at q
      exact ⟨.str z, H, I, ⟨_, rfl⟩, q⟩
    · rw [if_neg hb]
      have e : (⟨(List.replicate k.toNat z.cps).foldl (· ++ ·) #[]⟩ : Str) = repS z k.toNat := by
        unfold repS
        rw [foldl_cps]
        simp
      rw [e]
      refine ⟨?_, .str (repS z k.toNat), H, I.tok _, ⟨_, rfl⟩, q⟩
      have h3 : z.length * k.toNat ≤ 1000 * 1000 := Nat.mul_le_mul hz (by omega)
      rw [repS_len, sizeLine_eq, Nat.mul_comm]
      omega
end XS

namespace XS
open PySem PySem.Spec PyProof.Rows L2
section
variable {K : PySem.W.Frag} {σ : L2.St} {H : Hp} {ta tb te tx : TE} {t u w : TS} {c c2 : TT} {x y z v : V} {r : R2} {Q : VK} {D : Ends} {g : TG}
/-! ### one step of a reading -/
theorem beq_dec {α : Type} [DecidableEq α] (i j : α) : (i == j) = decide (i = j) := by rw [Bool.eq_iff_iff]; simp
theorem x_sAsg (h : te σ H fun x H1 => g x σ H1 (u D)) : tSeq (tAsg te g) u D σ H := h
theorem x_sIf (h : c σ H fun b H1 => if b = true then t { D with nx := u D } σ H1 else w { D with nx := u D } σ H1) : tSeq (tIfS c t w) u D σ H := h
theorem x_sDrop (h : te σ H fun _ H1 => u D σ H1) : tSeq (tDrop te) u D σ H := h
theorem x_sNext (h : u D σ H) : tSeq tNext u D σ H := h
theorem x_sSeq (h : tSeq t (tSeq w u) D σ H) : tSeq (tSeq t w) u D σ H := h
theorem x_sAny (h : t { D with nx := u D } σ H) : tSeq t u D σ H := h
theorem x_asg (h : te σ H fun x H1 => g x σ H1 D.nx) : tAsg te g D σ H := h
theorem x_if (h : c σ H fun b H1 => if b = true then t D σ H1 else w D σ H1) : tIfS c t w D σ H := h
theorem x_drop (h : te σ H fun _ H1 => D.nx σ H1) : tDrop te D σ H := h
theorem x_ret (h : te σ H D.rt) : tRet te D σ H := h
theorem x_next (h : D.nx σ H) : tNext D σ H := h
theorem x_cont (h : D.ct σ H) : tCont D σ H := h
theorem x_nx {f : L2.St → Hp → Prop} {a b d} (h : f σ H) : Ends.nx ⟨f, a, b, d⟩ σ H := h
theorem x_ct {f : L2.St → Hp → Prop} {a b d} (h : f σ H) : Ends.ct ⟨a, b, d, f⟩ σ H := h
theorem x_rt {f : VK} {a b d} (h : f v H) : Ends.rt ⟨a, f, b, d⟩ v H := h
theorem x_bk {f : L2.St → Hp → Prop} {a b d} (h : f σ H) : Ends.bk ⟨a, b, f, d⟩ σ H := h
theorem x_gname {i : Nat} {k : L2.St → Hp → Prop} (h : k (σ.set i (some v)) H) : gName i v σ H k := h
theorem x_var {i : Nat} (e : σ[i]? = some (some v)) (h : Q v H) : tVar i σ H Q := ⟨v, e, h⟩
theorem x_c (h : Q v H) : tC v σ H Q := h
theorem x_op (h : ta σ H fun x H1 => tb σ H1 fun y H2 => r x y H2 Q) : tOp r ta tb σ H Q := h
theorem x_un {r : V → Hp → VK → Prop} (h : ta σ H fun x H1 => r x H1 Q) : tUn r ta σ H Q := h
theorem x_I0 {f : Int → Int → V} {i j : Int} (h : Q (f i j) H) : rI0 f (.int i) (.int j) H Q := ⟨i, j, rfl, rfl, h⟩
theorem x_I {C : Int → Int → Prop} {f : Int → Int → V} {i j : Int} (hc : C i j) (h : Q (f i j) H) : rI C f (.int i) (.int j) H Q := ⟨i, j, rfl, rfl, hc, h⟩
theorem x_U {f : Int → V} {i : Int} (h : Q (f i) H) : rU f (.int i) H Q := ⟨i, rfl, h⟩
theorem x_eqI {i j : Int} (h : Q (.bl (decide (i = j))) H) : rEq (.int i) (.int j) H Q := ⟨rfl, by rw [dec_int, beq_dec]; exact h⟩
theorem x_neI {i j : Int} (h : Q (.bl (!decide (i = j))) H) : rNe (.int i) (.int j) H Q := ⟨rfl, by rw [dec_int, beq_dec]; exact h⟩
theorem x_eqS {i j : Str} (h : Q (.bl (decide (i = j))) H) : rEq (.str i) (.str j) H Q := ⟨rfl, by rw [dec_str, beq_dec]; exact h⟩
theorem x_neS {i j : Str} (h : Q (.bl (!decide (i = j))) H) : rNe (.str i) (.str j) H Q := ⟨rfl, by rw [dec_str, beq_dec]; exact h⟩
theorem x_eqB {i j : Bool} (h : Q (.bl (decide (i = j))) H) : rEq (.bl i) (.bl j) H Q := ⟨rfl, by rw [dec_bl, beq_dec]; exact h⟩
theorem x_neB {i j : Bool} (h : Q (.bl (!decide (i = j))) H) : rNe (.bl i) (.bl j) H Q := ⟨rfl, by rw [dec_bl, beq_dec]; exact h⟩
theorem x_test {k : Bool → Hp → Prop} (h : te σ H fun x H' => ∃ b, x = .bl b ∧ k b H') : tTest te σ H k := h
theorem x_B {k : Bool → Hp → Prop} (h : te σ H fun x H' => ∃ b, x = .bl b ∧ k b H') : tB te σ H k := h
theorem x_k {b : Bool} {k : Bool → Hp → Prop} (h : k b H) : ∃ b', V.bl b = V.bl b' ∧ k b' H := ⟨b, rfl, h⟩
theorem x_and {k : Bool → Hp → Prop} (h : c σ H fun b H1 => if b = true then c2 σ H1 k else k false H1) : tAnd c c2 σ H k := h
theorem x_or {k : Bool → Hp → Prop} (h : c σ H fun b H1 => if b = true then k true H1 else c2 σ H1 k) : tOr c c2 σ H k := h
theorem x_not {k : Bool → Hp → Prop} (h : c σ H fun b H1 => k (!b) H1) : tNot c σ H k := h
theorem x_andV (h : ta σ H fun x H1 => ∃ b, x = .bl b ∧ if b = true then tb σ H1 Q else Q (.bl false) H1) : tAndV ta tb σ H Q := h
theorem x_orV (h : ta σ H fun x H1 => ∃ b, x = .bl b ∧ if b = true then Q (.bl true) H1 else tb σ H1 Q) : tOrV ta tb σ H Q := h
theorem x_notV (h : ta σ H fun x H1 => ∃ b, x = .bl b ∧ Q (.bl (!b)) H1) : tNotV ta σ H Q := h
theorem x_ifE (h : c σ H fun b H1 => if b = true then ta σ H1 Q else tb σ H1 Q) : tIf c ta tb σ H Q := h
theorem x_k2 {b : Bool} {P : Bool → Prop} (h : P b) : ∃ b', V.bl b = V.bl b' ∧ P b' := ⟨b, rfl, h⟩
theorem x_call {sp : Sp} {dvs : List V} {E : XK} {a : TA} (h : a σ H fun vs H1 => sp (vs ++ dvs) H1 Q E) : tCall sp dvs E a σ H Q := h
theorem x_cb {r : List V → Hp → VK → Prop} {a : TA} (h : a σ H fun vs H1 => r vs H1 Q) : tCB r a σ H Q := h
theorem x_nil {k : List V → Hp → Prop} (h : k [] H) : tNil σ H k := h
theorem x_cons {a : TA} {k : List V → Hp → Prop} (h : ta σ H fun x H1 => a σ H1 fun xs H2 => k (x :: xs) H2) : tCons ta a σ H k := h
theorem x_tup {a : TA} (h : a σ H fun xs H1 => xs.length ≤ sizeLine ∧ ∀ p, H1 p = none → Q (.ref p) (upd H1 p (.tup xs))) : tTup a σ H Q := h
theorem x_lst {a : TA} (h : a σ H fun xs H1 => xs.length ≤ sizeLine ∧ ∀ p, H1 p = none → Q (.ref p) (upd H1 p (.lst xs))) : tLst a σ H Q := h
theorem x_sl {r : V → Option Int → Option Int → Hp → VK → Prop} {tl th : TO} (h : te σ H fun x H1 => tl σ H1 fun l H2 => th σ H2 fun u H3 => r x l u H3 Q) : tSl r te tl th σ H Q := h
theorem x_nopart {k : Option Int → Hp → Prop} (h : k none H) : tNoPart σ H k := h
theorem x_part {k : Option Int → Hp → Prop} (h : te σ H fun x H1 => ∃ i, x = .int i ∧ k (some i) H1) : tPart te σ H k := h
theorem x_ki {i : Int} {P : Int → Prop} (h : P i) : ∃ i', V.int i = V.int i' ∧ P i' := ⟨i, rfl, h⟩
theorem x_bm {T : String} {r : V → List V → Hp → VK → Prop} {a : TA} (h : te σ H fun x H1 => tyV K T x H1 ∧ a σ H1 fun xs H2 => r x xs H2 Q) : tBM K T r te a σ H Q := h
theorem x_bm0 {T : String} {r : V → List V → Hp → VK → Prop} (h : te σ H fun x H1 => tyV K T x H1 ∧ r x [] H1 Q) : tBM0 K T r te σ H Q := h
theorem x_ixL {p : Addr} {xs : List V} {i : Int} (hx : SqL K H p xs) (ha : atI xs i = some v) (h : Q v H) : rIxL K (.ref p) (.int i) H Q := ⟨p, xs, i, v, rfl, rfl, hx, ha, h⟩
theorem x_ixT {p : Addr} {xs : List V} {i : Int} (hx : SqT K H p xs) (ha : atI xs i = some v) (h : Q v H) : rIxT K (.ref p) (.int i) H Q := ⟨p, xs, i, v, rfl, rfl, hx, ha, h⟩
theorem x_ixS {z : Str} {i : Int} {cc : Nat} (hz : z.length ≤ sizeLine) (ha : atI z.cps.toList i = some cc) (h : Q (.str ⟨#[cc]⟩) H) : rIxS (.str z) (.int i) H Q := ⟨z, i, cc, rfl, rfl, hz, ha, h⟩
theorem x_tyL {p : Addr} {xs : List V} (h : H p = some (.lst xs)) : tyV K "list" (.ref p) H := Or.inl ⟨rfl, _, Or.inl (Or.inl h)⟩
theorem x_tyL' {A : Prop} {p : Addr} (h1 : tyV K "list" (.ref p) H) (h : A) : tyV K "list" (.ref p) H ∧ A := ⟨h1, h⟩
theorem x_app {p : Addr} {xs : List V} (h1 : H p = some (.lst xs)) (hz : xs.length < sizeLine) (h : Q .non (upd H p (.lst (xs ++ [v])))) : rAppend (.ref p) [v] H Q := ⟨p, xs, v, rfl, rfl, h1, hz, h⟩
theorem x_T {A B : Prop} (h : A) : if true = true then A else B := by rw [if_pos rfl]; exact h
theorem x_F {A B : Prop} (h : B) : if false = true then A else B := by rw [if_neg Bool.false_ne_true]; exact h
theorem x_Tn {A B : Prop} (h : A) : if (!false) = true then A else B := x_T h
theorem x_Fn {A B : Prop} (h : B) : if (!true) = true then A else B := x_F h
theorem x_2 {b : Bool} {A B : Prop} (h1 : b = true → A) (h2 : b = false → B) : if b = true then A else B := by
  cases b with
  | true => exact x_T (h1 rfl)
  | false => exact x_F (h2 rfl)
theorem x_d {p : Prop} [Decidable p] {A B : Prop} (h1 : p → A) (h2 : ¬ p → B) : if decide p = true then A else B := by
  by_cases h : p
  · rw [decide_eq_true h]; exact x_T (h1 h)
  · rw [decide_eq_false h]; exact x_F (h2 h)
theorem x_dn {p : Prop} [Decidable p] {A B : Prop} (h1 : ¬ p → A) (h2 : p → B) : if (!decide p) = true then A else B := by
  by_cases h : p
  · rw [decide_eq_true h]; exact x_F (h2 h)
  · rw [decide_eq_false h]; exact x_T (h1 h)
/-- a known test -/
theorem x_yes {b : Bool} {A B : Prop} (hb : b = true) (h : A) : if b = true then A else B := by rw [if_pos hb]; exact h
theorem x_no {b : Bool} {A B : Prop} (hb : b = false) (h : B) : if b = true then A else B := by rw [if_neg (by rw [hb]; exact Bool.false_ne_true)]; exact h
/-- a new object: what stood stands -/
theorem same_upd {H : Hp} {p : Addr} {o : HO} (h : H p = none) : Same H (upd H p o) := fun b x e => by
  rw [upd_ne (ne_of_none e h)]
  exact e
theorem x_new {p : Addr} {o : HO} {P : Hp → Prop} (hp : H p = none) (h : ∀ H1, Same H H1 → H1 p = some o → P H1) : P (upd H p o) := h _ (same_upd hp) upd_same
theorem newly {H : Hp} {p : Addr} {o : HO} (hp : H p = none) : Same H (upd H p o) ∧ upd H p o p = some o := ⟨same_upd hp, upd_same⟩
theorem same_mut {H H' : Hp} {p : Addr} {o : HO} (e : Same H H') (h : H p = none) : Same H (upd H' p o) := fun b x q => by
  rw [upd_ne (ne_of_none q h)]
  exact e b x q
/-- a new tuple, list: told by what holds behind -/
theorem x_newT {xs : List V} {Q : VK} (hz : xs.length ≤ sizeLine) (h : ∀ p H1, H p = none → Same H H1 → H1 p = some (.tup xs) → Q (.ref p) H1) : xs.length ≤ sizeLine ∧ ∀ p, H p = none → Q (.ref p) (upd H p (.tup xs)) :=
  ⟨hz, fun p hp => h p _ hp (same_upd hp) upd_same⟩
theorem x_newL {xs : List V} {Q : VK} (hz : xs.length ≤ sizeLine) (h : ∀ p H1, H p = none → Same H H1 → H1 p = some (.lst xs) → Q (.ref p) H1) : xs.length ≤ sizeLine ∧ ∀ p, H p = none → Q (.ref p) (upd H p (.lst xs)) :=
  ⟨hz, fun p hp => h p _ hp (same_upd hp) upd_same⟩
end
/-! ### for -/
def ForJ (J : It) (g : TG) (t : TS) : TS := tFor (fun _ H' R => R J H') g t
section
variable {K : PySem.W.Frag} {σ : L2.St} {H : Hp} {tl : TE} {t u : TS} {D : Ends} {g : TG}
theorem x_for {wi : TI} (h : wi σ H fun J H1 => ForJ J g t D σ H1) : tFor wi g t D σ H := h
theorem x_sFor {wi : TI} (h : wi σ H fun J H1 => ForJ J g t { D with nx := u D } σ H1) : tSeq (tFor wi g t) u D σ H := h
theorem x_iL {R : It → Hp → Prop} (h : tl σ H fun x H1 => ∃ a, x = .ref a ∧ (∃ xs, SqL K H1 a xs) ∧ R (Itl K a) H1) : iList K tl σ H R := h
theorem x_iT {R : It → Hp → Prop} (h : tl σ H fun x H1 => ∃ a, x = .ref a ∧ (∃ xs, SqT K H1 a xs) ∧ R (Itt K a) H1) : iTup K tl σ H R := h
theorem x_iR1 {a : TA} {R : It → Hp → Prop} (h : a σ H fun vs H1 => ∃ j : Int, vs = [.int j] ∧ -(2 ^ 62) ≤ j ∧ j < 2 ^ 62 ∧ R (Itr 0 j.toNat) H1) : iRng1 a σ H R := h
theorem x_iR2 {a : TA} {R : It → Hp → Prop} (h : a σ H fun vs H1 => ∃ i j : Int, vs = [.int i, .int j] ∧ (-(2 ^ 62) ≤ i ∧ i < 2 ^ 62 ∧ -(2 ^ 62) ≤ j ∧ j < 2 ^ 62) ∧ R (Itr i (j - i).toNat) H1) : iRng2 a σ H R := h
theorem x_forL {p : Addr} {xs : List V} (hx : SqL K H p xs) (Pv : Nat → L2.St → Hp → Prop) (h0 : Pv 0 σ H) (hl : ∀ i σ' H', i ≤ xs.length → Pv i σ' H' → SqL K H' p xs)
    (hs : ∀ i x σ' H', xs[i]? = some x → Pv i σ' H' → g x σ' H' fun σ2 H2 => t { D with nx := Pv (i + 1), ct := Pv (i + 1), bk := D.nx } σ2 H2) (hd : ∀ σ' H', Pv xs.length σ' H' → D.nx σ' H') :
    ∃ a, V.ref p = .ref a ∧ (∃ xs, SqL K H a xs) ∧ ForJ (Itl K a) g t D σ H := ⟨p, rfl, ⟨xs, hx⟩, for_list (K := K) (a := p) (xs := xs) Pv h0 hl hs hd⟩
theorem x_forT {p : Addr} {xs : List V} (hx : SqT K H p xs) (Pv : Nat → L2.St → Hp → Prop) (h0 : Pv 0 σ H) (hl : ∀ i σ' H', i ≤ xs.length → Pv i σ' H' → SqT K H' p xs)
    (hs : ∀ i x σ' H', xs[i]? = some x → Pv i σ' H' → g x σ' H' fun σ2 H2 => t { D with nx := Pv (i + 1), ct := Pv (i + 1), bk := D.nx } σ2 H2) (hd : ∀ σ' H', Pv xs.length σ' H' → D.nx σ' H') :
    ∃ a, V.ref p = .ref a ∧ (∃ xs, SqT K H a xs) ∧ ForJ (Itt K a) g t D σ H := ⟨p, rfl, ⟨xs, hx⟩, for_tup (K := K) (a := p) (xs := xs) Pv h0 hl hs hd⟩
theorem x_forR1 {n : Int} (hb : -(2 ^ 62) ≤ n ∧ n < 2 ^ 62) (Pv : Nat → L2.St → Hp → Prop) (h0 : Pv 0 σ H)
    (hs : ∀ (i : Nat) σ' H', (i : Int) < n → Pv i σ' H' → g (.int (i : Int)) σ' H' fun σ2 H2 => t { D with nx := Pv (i + 1), ct := Pv (i + 1), bk := D.nx } σ2 H2) (hd : ∀ σ' H', Pv n.toNat σ' H' → D.nx σ' H') :
    ∃ j : Int, [V.int n] = [.int j] ∧ -(2 ^ 62) ≤ j ∧ j < 2 ^ 62 ∧ ForJ (Itr 0 j.toNat) g t D σ H :=
  ⟨n, rfl, hb.1, hb.2, for_range (lo := 0) (n := n.toNat) Pv h0 (fun i σ' H' hi q => by rw [Int.zero_add]; exact hs i σ' H' (by omega) q) hd⟩
theorem x_forR2 {lo n : Int} (hb : -(2 ^ 62) ≤ lo ∧ lo < 2 ^ 62 ∧ -(2 ^ 62) ≤ n ∧ n < 2 ^ 62) (Pv : Nat → L2.St → Hp → Prop) (h0 : Pv 0 σ H)
    (hs : ∀ (i : Nat) σ' H', lo + (i : Int) < n → Pv i σ' H' → g (.int (lo + (i : Int))) σ' H' fun σ2 H2 => t { D with nx := Pv (i + 1), ct := Pv (i + 1), bk := D.nx } σ2 H2) (hd : ∀ σ' H', Pv (n - lo).toNat σ' H' → D.nx σ' H') :
    ∃ i j : Int, [V.int lo, V.int n] = [.int i, .int j] ∧ (-(2 ^ 62) ≤ i ∧ i < 2 ^ 62 ∧ -(2 ^ 62) ≤ j ∧ j < 2 ^ 62) ∧ ForJ (Itr i (j - i).toNat) g t D σ H :=
  ⟨lo, n, rfl, hb, for_range (lo := lo) (n := (n - lo).toNat) Pv h0 (fun i σ' H' hi q => hs i σ' H' (by omega) q) hd⟩
/-! ### targets -/
theorem x_gtup {n : Nat} {p : Addr} {xs : List V} {gs : TGs} {k : L2.St → Hp → Prop} (hx : SqT K H p xs) (hn : xs.length = n) (h : gs xs σ H k) : gTup K n gs (.ref p) σ H k := ⟨p, xs, rfl, hx, hn, h⟩
theorem x_gcons {gs : TGs} {v : V} {r : List V} {k : L2.St → Hp → Prop} (h : g v σ H fun σ' H' => gs r σ' H' k) : gCons g gs (v :: r) σ H k := ⟨v, r, rfl, h⟩
theorem x_gnil {k : L2.St → Hp → Prop} (h : k σ H) : gNil [] σ H k := ⟨rfl, h⟩
end
theorem sz {n : Nat} (h : n ≤ 100000) : n ≤ sizeLine := Nat.le_trans h (by decide)
theorem szl {n : Nat} (h : n < 100000) : n < sizeLine := Nat.lt_of_lt_of_le h (by decide)
theorem _root_.L2.Same.seqT {K : PySem.W.Frag} {H H' : Hp} {a : Addr} {xs : List V} (e : Same H H') (h : SqT K H a xs) : SqT K H' a xs := by
  rcases h with (h | ⟨o, h⟩) | h
  · exact .inl (.inl (e _ _ h))
  · exact .inl (.inr ⟨o, e _ _ h⟩)
  · exact .inr h
theorem g_var {i : Nat} {σ : L2.St} {H : Hp} {Q : VK} (h : tVar i σ H Q) : tVar i σ H Q := h
theorem g_I {C : Int → Int → Prop} {f : Int → Int → V} {x y : V} {H : Hp} {Q : VK} (h : rI C f x y H Q) : rI C f x y H Q := h
theorem x_par {i j : Nat} {a : TA} {D : Ends} {σ : L2.St} {H : Hp} (h : a σ H fun vs H1 => ∃ v w, vs = [v, w] ∧ D.nx ((σ.set i (some v)).set j (some w)) H1) : tPar i j a D σ H := h
theorem x_sPar {i j : Nat} {a : TA} {u : TS} {D : Ends} {σ : L2.St} {H : Hp} (h : a σ H fun vs H1 => ∃ v w, vs = [v, w] ∧ u D ((σ.set i (some v)).set j (some w)) H1) : tSeq (tPar i j a) u D σ H := h
end XS

namespace XS
open PySem PySem.Spec PyProof.Rows L2
/-! ### texts in order -/
def slt (a b : Str) : Prop := ltCps a.cps.toList b.cps.toList = true
theorem ltC_irr : ∀ a : List Nat, ltCps a a = false
  | [] => rfl
  | a :: r => by
    show (decide (a < a) || (a == a && ltCps r r)) = false
    rw [ltC_irr r]; simp
theorem ltC_tr : ∀ a b c : List Nat, ltCps a b = true → ltCps b c = true → ltCps a c = true
  | [], [], _, h, _ => by cases h
  | [], _ :: _, [], _, h => by cases h
  | [], _ :: _, _ :: _, _, _ => rfl
  | _ :: _, [], _, h, _ => by cases h
  | _ :: _, _ :: _, [], _, h => by cases h
  | a :: r, b :: s, c :: t, h1, h2 => by
    have h1' : (decide (a < b) || (a == b && ltCps r s)) = true := h1
    have h2' : (decide (b < c) || (b == c && ltCps s t)) = true := h2
    show (decide (a < c) || (a == c && ltCps r t)) = true
    simp only [Bool.or_eq_true, Bool.and_eq_true, decide_eq_true_eq, beq_iff_eq] at *
    rcases h1' with h1' | ⟨h1', h3⟩
    · rcases h2' with h2' | ⟨h2', h4⟩
      · exact .inl (by omega)
      · exact .inl (by omega)
    · rcases h2' with h2' | ⟨h2', h4⟩
      · exact .inl (by omega)
      · exact .inr ⟨by omega, ltC_tr r s t h3 h4⟩
theorem ltC_tot : ∀ a b : List Nat, ltCps a b = false → ltCps b a = false → a = b
  | [], [], _, _ => rfl
  | [], _ :: _, h, _ => by cases h
  | _ :: _, [], _, h => by cases h
  | a :: r, b :: s, h1, h2 => by
    have h1' : (decide (a < b) || (a == b && ltCps r s)) = false := h1
    have h2' : (decide (b < a) || (b == a && ltCps s r)) = false := h2
    simp only [Bool.or_eq_false_iff, Bool.and_eq_false_iff, decide_eq_false_iff_not, beq_eq_false_iff_ne] at *
    have e : a = b := by omega
    subst e
    have h3 : ltCps r s = false := by rcases h1'.2 with h | h; exact absurd rfl h; exact h
    have h4 : ltCps s r = false := by rcases h2'.2 with h | h; exact absurd rfl h; exact h
    rw [ltC_tot r s h3 h4]
theorem str_ext {a b : Str} (h : a.cps.toList = b.cps.toList) : a = b := by
  cases a; cases b
  simp at h
  subst h
  rfl
theorem slt_irr (a : Str) : ¬ slt a a := by unfold slt; rw [ltC_irr]; exact Bool.false_ne_true
theorem slt_tr {a b c : Str} (h1 : slt a b) (h2 : slt b c) : slt a c := ltC_tr _ _ _ h1 h2
theorem slt_asym {a b : Str} (h1 : slt a b) (h2 : slt b a) : False := slt_irr _ (slt_tr h1 h2)
theorem slt_tot {a b : Str} (h1 : ¬ slt a b) (h2 : ¬ slt b a) : a = b := str_ext (ltC_tot _ _ (by unfold slt at h1; simpa using h1) (by unfold slt at h2; simpa using h2))
theorem slt_lt {a b : Str} : slt a b ↔ a.cps.toList < b.cps.toList := by unfold slt; rw [ltCps_eq]; simp
/-- rising names -/
def Rising (xs : List Str) : Prop := xs.Pairwise slt
theorem rising_of : ∀ {xs : List Str}, xs.Nodup → sortedS xs = true → Rising xs := by
  have key : ∀ (r : List Str) (p : Str), (p :: r).Nodup → risingS p r = true → Rising (p :: r) := by
    intro r
    induction r with
    | nil => intro p _ _; exact List.pairwise_singleton _ _
    | cons x r ih =>
      intro p nd h
      have h' : (!ltCps x.cps.toList p.cps.toList && risingS x r) = true := h
      simp only [Bool.and_eq_true, Bool.not_eq_true'] at h'
      have nd2 := (List.nodup_cons.mp nd).2
      have ih' := ih x nd2 h'.2
      have hpx : slt p x := by
        by_cases e : slt p x
        · exact e
        · have : p = x := slt_tot e (by unfold slt; rw [h'.1]; exact Bool.false_ne_true)
          subst this
          exact absurd (List.mem_cons_self ..) (List.nodup_cons.mp nd).1
      refine List.pairwise_cons.mpr ⟨fun y hy => ?_, ih'⟩
      rcases List.mem_cons.mp hy with rfl | hy
      · exact hpx
      · exact slt_tr hpx (List.rel_of_pairwise_cons ih' hy)
  intro xs nd h
  cases xs with
  | nil => exact List.Pairwise.nil
  | cons p r => exact key r p nd h
theorem Rising.nodup {xs : List Str} (h : Rising xs) : xs.Nodup := List.Pairwise.imp (fun {a b} h e => by subst e; exact slt_irr _ h) h
/-- rising lists of the same members are the same -/
theorem rising_ext : ∀ {xs ys : List Str}, Rising xs → Rising ys → (∀ x, x ∈ xs ↔ x ∈ ys) → xs = ys
  | [], [], _, _, _ => rfl
  | [], y :: _, _, _, h => absurd ((h y).mpr (List.mem_cons_self ..)) (by simp)
  | x :: _, [], _, _, h => absurd ((h x).mp (List.mem_cons_self ..)) (by simp)
  | x :: xs, y :: ys, hx, hy, h => by
    have e : x = y := by
      rcases List.mem_cons.mp ((h x).mp (List.mem_cons_self ..)) with e | hm
      · exact e
      · rcases List.mem_cons.mp ((h y).mpr (List.mem_cons_self ..)) with e | hm2
        · exact e.symm
        · exact (slt_asym (List.rel_of_pairwise_cons hx hm2) (List.rel_of_pairwise_cons hy hm)).elim
    subst e
    have : xs = ys := by
      refine rising_ext (List.pairwise_cons.mp hx).2 (List.pairwise_cons.mp hy).2 fun z => ⟨fun hz => ?_, fun hz => ?_⟩
      · rcases List.mem_cons.mp ((h z).mp (List.mem_cons_of_mem _ hz)) with e | hm
        · subst e; exact (slt_irr _ (List.rel_of_pairwise_cons hx hz)).elim
        · exact hm
      · rcases List.mem_cons.mp ((h z).mpr (List.mem_cons_of_mem _ hz)) with e | hm
        · subst e; exact (slt_irr _ (List.rel_of_pairwise_cons hy hz)).elim
        · exact hm
    rw [this]
/-! ### sums -/
abbrev Pr := Str × Int
/-- the share of a name in pairs, in any order -/
def shr (ps : List Pr) (x : Str) : Int := ((ps.filter fun p => decide (p.1 = x)).map (·.2)).sum
theorem shr_nil (x : Str) : shr [] x = 0 := rfl
theorem shr_cons (p : Pr) (ps : List Pr) (x : Str) : shr (p :: ps) x = (if p.1 = x then p.2 else 0) + shr ps x := by
  unfold shr
  by_cases h : p.1 = x
  · rw [List.filter_cons, if_pos (by simpa using h), if_pos h]; rfl
  · rw [List.filter_cons, if_neg (by simpa using h), if_neg h, Int.zero_add]
theorem shr_app (ps qs : List Pr) (x : Str) : shr (ps ++ qs) x = shr ps x + shr qs x := by
  unfold shr
  rw [List.filter_append, List.map_append, List.sum_append]
theorem shr_out {ps : List Pr} {x : Str} (h : x ∉ ps.map (·.1)) : shr ps x = 0 := by
  induction ps with
  | nil => rfl
  | cons p ps ih =>
    rw [List.map_cons, List.mem_cons, not_or] at h
    rw [shr_cons, if_neg (fun e => h.1 e.symm), ih h.2, Int.zero_add]
theorem shr_at {ps : List Pr} {p : Pr} (nd : (ps.map (·.1)).Nodup) (h : p ∈ ps) : shr ps p.1 = p.2 := by
  induction ps with
  | nil => cases h
  | cons q ps ih =>
    rw [List.map_cons] at nd
    have nd' := List.nodup_cons.mp nd
    rw [shr_cons]
    rcases List.mem_cons.mp h with rfl | h
    · rw [if_pos rfl, shr_out nd'.1, Int.add_zero]
    · rw [if_neg (fun e => nd'.1 (by rw [e]; exact List.mem_map_of_mem h)), ih nd'.2 h, Int.zero_add]
/-- the form of a sum's parts -/
structure Norm (ps : List Pr) : Prop where
  rise : Rising (ps.map (·.1))
  nz : ∀ p ∈ ps, p.2 ≠ 0
theorem Norm.mem_iff {ps : List Pr} (n : Norm ps) (x : Str) : x ∈ ps.map (·.1) ↔ shr ps x ≠ 0 := by
  constructor
  · intro h
    obtain ⟨p, hp, rfl⟩ := List.mem_map.mp h
    rw [shr_at n.rise.nodup hp]
    exact n.nz p hp
  · intro h
    by_cases c : x ∈ ps.map (·.1)
    · exact c
    · exact absurd (shr_out c) h
theorem pairs_of {ps : List Pr} (nd : (ps.map (·.1)).Nodup) : ps = (ps.map (·.1)).map fun x => (x, shr ps x) := by
  rw [List.map_map]
  refine (List.map_id ps).symm.trans (List.map_congr_left fun p hp => ?_)
  show p = (p.1, shr ps p.1)
  rw [shr_at nd hp]
theorem norm_ext {ps qs : List Pr} (n : Norm ps) (m : Norm qs) (h : ∀ x, shr ps x = shr qs x) : ps = qs := by
  have e : ps.map (·.1) = qs.map (·.1) := rising_ext n.rise m.rise fun x => by rw [n.mem_iff, m.mem_iff, h]
  rw [pairs_of n.rise.nodup, pairs_of m.rise.nodup, e]
  exact List.map_congr_left fun x _ => by rw [h]
/-- of rising names those with a share -/
def kept (xs : List Str) (f : Str → Int) : List Pr := (xs.filter fun x => decide (f x ≠ 0)).map fun x => (x, f x)
theorem kept_names (xs : List Str) (f : Str → Int) : (kept xs f).map (·.1) = xs.filter fun x => decide (f x ≠ 0) := by
  unfold kept
  rw [List.map_map]
  exact (List.map_congr_left fun x _ => rfl).trans (List.map_id _)
theorem kept_norm {xs : List Str} {f : Str → Int} (h : Rising xs) : Norm (kept xs f) where
  rise := by rw [kept_names]; exact List.Pairwise.sublist List.filter_sublist h
  nz := fun p hp => by
    unfold kept at hp
    obtain ⟨x, hx, rfl⟩ := List.mem_map.mp hp
    simpa using (List.mem_filter.mp hx).2
theorem kept_shr {xs : List Str} {f : Str → Int} (h : Rising xs) (hf : ∀ x, x ∉ xs → f x = 0) (x : Str) : shr (kept xs f) x = f x := by
  by_cases c : x ∈ (kept xs f).map (·.1)
  · obtain ⟨p, hp, rfl⟩ := List.mem_map.mp c
    rw [shr_at (kept_norm h).rise.nodup hp]
    unfold kept at hp
    obtain ⟨y, hy, rfl⟩ := List.mem_map.mp hp
    rfl
  · rw [shr_out c]
    rw [kept_names, List.mem_filter] at c
    by_cases d : x ∈ xs
    · by_cases e : f x = 0
      · exact e.symm
      · exact absurd ⟨d, by simpa using e⟩ c
    · exact (hf x d).symm
/-! ### data -/
def prT (p : Pr) : PyData := .tuple [.str p.1, .int p.2]
abbrev Sm := Int × List Pr
def sumD (s : Sm) : PyData := .tuple [.int s.1, .tuple (s.2.map prT)]
/-- data of ints, texts, True, None, tuples and lists, n deep at most -/
inductive Al : Nat → PyData → Prop
  | int {n : Nat} (i : Int) : Al n (.int i)
  | str {n : Nat} (x : Str) : Al n (.str x)
  | tru {n : Nat} : Al n (.bool true)
  | non {n : Nat} : Al n .none
  | tup {n : Nat} {ds : List PyData} : (∀ d ∈ ds, Al n d) → ds.length ≤ 1000 → Al (n + 1) (.tuple ds)
  | lst {n : Nat} {ds : List PyData} : (∀ d ∈ ds, Al n d) → ds.length ≤ 1000 → Al (n + 1) (.list ds)
theorem al_pair {n : Nat} (p : Pr) : Al (n + 1) (prT p) := by
  refine .tup (fun d hd => ?_) (by simp)
  rcases List.mem_cons.mp hd with rfl | hd
  · exact .str _
  · rcases List.mem_cons.mp hd with rfl | hd
    · exact .int _
    · cases hd
theorem al_sum {n : Nat} {s : Sm} (h : s.2.length ≤ 1000) : Al (n + 3) (sumD s) := by
  refine .tup (fun d hd => ?_) (by simp)
  rcases List.mem_cons.mp hd with rfl | hd
  · exact .int _
  · rcases List.mem_cons.mp hd with rfl | hd
    · refine .tup (fun d hd => ?_) (by rw [List.length_map]; exact h)
      obtain ⟨p, _, rfl⟩ := List.mem_map.mp hd
      exact al_pair p
    · cases hd
end XS
namespace L2
open PySem PySem.Spec PyProof.Rows XS
section
variable {K : PySem.W.Frag} {H H' : Hp}
/-! what stands keeps its data -/
mutual
theorem Dp.same (e : Same H H') : ∀ (d : PyData) (v : V), Dp K H v d → Dp K H' v d
  | .none, _, h => by cases h; exact .non
  | .bool b, _, h => by cases h; exact .bl b
  | .int i, _, h => by cases h; exact .int i
  | .str x, _, h => by cases h; exact .str x
  | .list ds, _, h => by
    cases h with
    | lst hs ha => exact .lst (e.seq hs) (DpAll.same e ds _ ha)
  | .tuple ds, _, h => by
    cases h with
    | tup hs ha => exact .tup (e.seqT hs) (DpAll.same e ds _ ha)
  | .dict _, _, h => by cases h
theorem DpAll.same (e : Same H H') : ∀ (ds : List PyData) (vs : List V), DpAll K H vs ds → DpAll K H' vs ds
  | [], _, h => by cases h; exact .nil
  | d :: ds, _, h => by
    cases h with
    | cons h1 h2 => exact .cons (Dp.same e d _ h1) (DpAll.same e ds _ h2)
end
theorem DpAll.len : ∀ {vs : List V} {ds : List PyData}, DpAll K H vs ds → vs.length = ds.length
  | [], _, h => by cases h; rfl
  | v :: vs, _, h => by
    cases h with
    | cons h1 h2 => rw [List.length_cons, List.length_cons, DpAll.len h2]
theorem DpAll.get : ∀ {vs : List V} {ds : List PyData} {i : Nat} {d : PyData}, DpAll K H vs ds → ds[i]? = some d → ∃ v, vs[i]? = some v ∧ Dp K H v d
  | [], _, i, d, h, e => by cases h; simp at e
  | v :: vs, _, 0, d, h, e => by
    cases h with
    | cons h1 h2 =>
      simp at e
      subst e
      exact ⟨v, rfl, h1⟩
  | v :: vs, _, i + 1, d, h, e => by
    cases h with
    | cons h1 h2 =>
      obtain ⟨u, q1, q2⟩ := DpAll.get (i := i) (d := d) h2 (by simpa using e)
      exact ⟨u, by simpa using q1, q2⟩
theorem DpAll.getV : ∀ {vs : List V} {ds : List PyData} {i : Nat} {v : V}, DpAll K H vs ds → vs[i]? = some v → ∃ d, ds[i]? = some d ∧ Dp K H v d
  | [], _, i, d, h, e => by simp at e
  | v :: vs, _, 0, d, h, e => by
    cases h with
    | cons h1 h2 =>
      simp at e
      subst e
      exact ⟨_, rfl, h1⟩
  | v :: vs, _, i + 1, d, h, e => by
    cases h with
    | cons h1 h2 =>
      obtain ⟨u, q1, q2⟩ := DpAll.getV (i := i) h2 (by simpa using e)
      exact ⟨u, by simpa using q1, q2⟩
theorem DpAll.app : ∀ {vs ws : List V} {ds es : List PyData}, DpAll K H vs ds → DpAll K H ws es → DpAll K H (vs ++ ws) (ds ++ es)
  | [], _, _, _, h, g => by cases h; exact g
  | v :: vs, _, _, _, h, g => by
    cases h with
    | cons h1 h2 => exact .cons h1 (DpAll.app h2 g)
theorem DpAll.one {v : V} {d : PyData} (h : Dp K H v d) : DpAll K H [v] [d] := .cons h .nil
end
end L2
namespace XS
open PySem PySem.Spec PyProof.Rows L2
section
variable {K : PySem.W.Frag} {H H' : Hp}
/-- the kinds of objects -/
theorem tyx_T {a : Addr} {xs : List V} (h : SqT K H a xs) : TyX K H (.ref a) (.type "tuple") := by
  rcases h with (h | ⟨o, h⟩) | ⟨o, its, n, h, hc, _⟩
  · exact .base (.tup h)
  · exact .fTuple h
  · exact .kTuple h hc
theorem tyx_L {a : Addr} {xs : List V} (h : SqL K H a xs) : TyX K H (.ref a) (.type "list") := by
  rcases h with (h | ⟨o, h⟩) | ⟨o, its, n, h, hc, _⟩
  · exact .base (.lst h)
  · exact .base (.frz h)
  · exact .kList h hc
end
/-- x is True, False -/
def rIsC : R2 := fun x y H Q => ∃ b, y = .bl b ∧ Q (.bl (decide (x = .bl b))) H
theorem op_isC {X : Cx} : OpR X (compareOp .Is) rIsC := by
  intro pins s σ H x y v u Q I rx ry h
  obtain ⟨b, rfl, q⟩ := h
  cases (show u = Value.bool b from ry)
  have fin : ∀ k, decide (x = V.bl b) = k → wpAny (model X.prog X.w) X.A (pure (Value.bool k)) (EP X pins σ Q) X.xe s := fun k e => wpAny_pure ⟨.bl k, H, I, rfl, by rw [← e]; exact q⟩
  cases x with
  | non => cases rx; exact fin false (by simp)
  | bl a =>
    cases rx
    have e : (Value.bool a == Value.bool b) = decide (V.bl a = V.bl b) := by cases a <;> cases b <;> rfl
    show wpAny _ _ (pure (Value.bool (Value.bool a == Value.bool b))) _ _ _
    rw [e]
    exact fin _ rfl
  | int i => obtain ⟨t, rfl⟩ := rx; exact fin false (by simp)
  | str i => obtain ⟨t, rfl⟩ := rx; exact fin false (by simp)
  | byt i => obtain ⟨t, rfl⟩ := rx; exact fin false (by simp)
  | flt i => obtain ⟨t, rfl⟩ := rx; exact fin false (by simp)
  | ref i => cases rx; exact fin false (by simp)
  | ty i => cases rx; exact fin false (by simp)
end XS

namespace XS
open PySem PySem.Spec PyProof.Rows L2
/-! ### data that never changes: tuples, ints, texts -/
inductive Im : PyData → Prop
  | int (i : Int) : Im (.int i)
  | str (x : Str) : Im (.str x)
  | bl (b : Bool) : Im (.bool b)
  | non : Im .none
  | tup {ds : List PyData} : (∀ d ∈ ds, Im d) → Im (.tuple ds)
theorem im_pair (p : Pr) : Im (prT p) := by
  refine .tup fun d hd => ?_
  rcases List.mem_cons.mp hd with rfl | hd
  · exact .str _
  · rcases List.mem_cons.mp hd with rfl | hd
    · exact .int _
    · cases hd
theorem im_tup2 {a b : PyData} (ha : Im a) (hb : Im b) : Im (.tuple [a, b]) := by
  refine .tup fun d hd => ?_
  rcases List.mem_cons.mp hd with rfl | hd
  · exact ha
  · rcases List.mem_cons.mp hd with rfl | hd
    · exact hb
    · cases hd
theorem im_map {α : Type} {l : List α} {f : α → PyData} (h : ∀ x ∈ l, Im (f x)) : Im (.tuple (l.map f)) := .tup fun d hd => by
  obtain ⟨x, hx, rfl⟩ := List.mem_map.mp hd
  exact h x hx
theorem im_sum (s : Sm) : Im (sumD s) := im_tup2 (.int _) (im_map fun p _ => im_pair p)
/-- what never changes stands -/
def Keeps (H H' : Hp) : Prop := ∀ a u, (∃ xs, u = HO.tup xs) ∨ (∃ o w, u = HO.frz o w) → H a = some u → H' a = some u
theorem Keeps.refl (H : Hp) : Keeps H H := fun _ _ _ h => h
theorem Keeps.trans {H H1 H2 : Hp} (a : Keeps H H1) (b : Keeps H1 H2) : Keeps H H2 := fun x u k h => b x u k (a x u k h)
theorem _root_.L2.Same.keeps {H H' : Hp} (e : Same H H') : Keeps H H' := fun a u _ h => e a u h
theorem keeps_lst {H : Hp} {p : Addr} {xs ys : List V} (h : H p = some (.lst xs)) : Keeps H (upd H p (.lst ys)) := fun a u k e => by
  rw [upd_ne (fun z => ?_)]
  · exact e
  · subst z
    rw [h] at e
    cases e
    rcases k with ⟨_, k⟩ | ⟨_, _, k⟩ <;> cases k
theorem keeps_dk {H : Hp} {p : Addr} {xs ys : List (Key × V)} (h : H p = some (.dK xs)) : Keeps H (upd H p (.dK ys)) := fun a u k e => by
  rw [upd_ne (fun z => ?_)]
  · exact e
  · subst z
    rw [h] at e
    cases e
    rcases k with ⟨_, k⟩ | ⟨_, _, k⟩ <;> cases k
theorem Keeps.seqT {K : PySem.W.Frag} {H H' : Hp} {a : Addr} {xs : List V} (e : Keeps H H') (h : SqT K H a xs) : SqT K H' a xs := by
  rcases h with (h | ⟨o, h⟩) | h
  · exact .inl (.inl (e _ _ (.inl ⟨_, rfl⟩) h))
  · exact .inl (.inr ⟨o, e _ _ (.inr ⟨_, _, rfl⟩) h⟩)
  · exact .inr h
end XS
namespace L2
open PySem PySem.Spec PyProof.Rows XS
section
variable {K : PySem.W.Frag} {H H' : Hp}
mutual
theorem Dp.keeps (e : Keeps H H') : ∀ (d : PyData) (v : V), Im d → Dp K H v d → Dp K H' v d
  | .none, _, _, h => by cases h; exact .non
  | .bool b, _, _, h => by cases h; exact .bl b
  | .int i, _, _, h => by cases h; exact .int i
  | .str x, _, _, h => by cases h; exact .str x
  | .list ds, _, i, h => by cases i
  | .tuple ds, _, i, h => by
    cases h with
    | tup hs ha =>
      cases i with
      | tup i => exact .tup (XS.Keeps.seqT e hs) (DpAll.keeps e ds _ i ha)
  | .dict _, _, _, h => by cases h
theorem DpAll.keeps (e : Keeps H H') : ∀ (ds : List PyData) (vs : List V), (∀ d ∈ ds, Im d) → DpAll K H vs ds → DpAll K H' vs ds
  | [], _, _, h => by cases h; exact .nil
  | d :: ds, _, i, h => by
    cases h with
    | cons h1 h2 => exact .cons (Dp.keeps e d _ (i d (List.mem_cons_self ..)) h1) (DpAll.keeps e ds _ (fun z hz => i z (List.mem_cons_of_mem _ hz)) h2)
end
/-- pairs, sums as they stand -/
theorem Dp.pair {v : V} {p : Pr} (h : Dp K H v (prT p)) : ∃ b, v = .ref b ∧ SqT K H b [.str p.1, .int p.2] := by
  unfold prT at h
  cases h with
  | tup hs ha =>
    cases ha with
    | cons h1 h2 =>
      cases h2 with
      | cons h2 h3 =>
        cases h3
        cases h1
        cases h2
        exact ⟨_, rfl, hs⟩
theorem Dp.mkPair {b : Addr} {p : Pr} (h : SqT K H b [.str p.1, .int p.2]) : Dp K H (.ref b) (prT p) := .tup h (.cons (.str _) (.cons (.int _) .nil))
theorem Dp.sum {v : V} {s : Sm} (h : Dp K H v (sumD s)) : ∃ a b vs, v = .ref a ∧ SqT K H a [.int s.1, .ref b] ∧ SqT K H b vs ∧ DpAll K H vs (s.2.map prT) := by
  unfold sumD at h
  cases h with
  | tup hs ha =>
    cases ha with
    | cons h1 h2 =>
      cases h2 with
      | cons h2 h3 =>
        cases h3
        cases h1
        cases h2 with
        | tup hb hc => exact ⟨_, _, _, rfl, hs, hb, hc⟩
theorem Dp.mkSum {a b : Addr} {vs : List V} {s : Sm} (h1 : SqT K H a [.int s.1, .ref b]) (h2 : SqT K H b vs) (h3 : DpAll K H vs (s.2.map prT)) : Dp K H (.ref a) (sumD s) :=
  .tup h1 (.cons (.int _) (.cons (.tup h2 h3) .nil))
theorem DpAll.ints : ∀ {vs : List V} {ns : List Int}, DpAll K H vs (ns.map PyData.int) → vs = ns.map V.int
  | [], [], _ => rfl
  | [], n :: _, h => by cases h
  | v :: vs, [], h => by cases h
  | v :: vs, n :: ns, h => by
    cases h with
    | cons h1 h2 =>
      cases h1
      rw [DpAll.ints h2]
      rfl
theorem DpAll.strs : ∀ {vs : List V} {ns : List Str}, DpAll K H vs (ns.map PyData.str) → vs = ns.map V.str
  | [], [], _ => rfl
  | [], n :: _, h => by cases h
  | v :: vs, [], h => by cases h
  | v :: vs, n :: ns, h => by
    cases h with
    | cons h1 h2 =>
      cases h1
      rw [DpAll.strs h2]
      rfl
theorem DpAll.ofInts : ∀ (ns : List Int), DpAll K H (ns.map V.int) (ns.map PyData.int)
  | [] => .nil
  | n :: ns => .cons (.int n) (DpAll.ofInts ns)
theorem DpAll.ofStrs : ∀ (ns : List Str), DpAll K H (ns.map V.str) (ns.map PyData.str)
  | [] => .nil
  | n :: ns => .cons (.str n) (DpAll.ofStrs ns)
end
end L2
namespace XS
open PySem PySem.Spec PyProof.Rows L2
/-! ### comprehensions: what is built of immutable data -/
def LcJ (J : It) (g : TG) (tt : TT) (te : TE) (vs : List Nat) : TE := tLc (fun _ H' R => R J H') g tt te vs
section
variable {K : PySem.W.Frag} {σ : L2.St} {H : Hp} {te : TE} {tt : TT} {g : TG} {vs : List Nat} {Q : VK} {α : Type}
theorem x_tyes {k : Bool → Hp → Prop} (h : k true H) : tYes σ H k := h
theorem x_lc {wi : TI} (h : wi σ H fun J H1 => LcJ J g tt te vs σ H1 Q) : tLc wi g tt te vs σ H Q := h
/-- the list so far -/
def LcAt (K : PySem.W.Frag) (H : Hp) (Dl : Addr) (ds : List PyData) (H' : Hp) : Prop := H Dl = none ∧ Same H H' ∧ ∃ acc, H' Dl = some (.lst acc) ∧ DpAll K H' acc ds
theorem lcAt_more {Dl : Addr} {ds : List PyData} {H' H4 : Hp} {y : V} {d : PyData} (a : LcAt K H Dl ds H') (e : Same H' H4) (hd : Dp K H4 y d) (im : Im d) (ims : ∀ d ∈ ds, Im d) (hz : ds.length < 100000) :
    ∃ acc, H4 Dl = some (.lst acc) ∧ acc.length < sizeLine ∧ LcAt K H Dl (ds ++ [d]) (upd H4 Dl (.lst (acc ++ [y]))) := by
  obtain ⟨a1, a2, acc, a3, a4⟩ := a
  have k := keeps_lst (ys := acc ++ [y]) (e _ _ a3)
  refine ⟨acc, e _ _ a3, szl (by have := a4.len; omega), a1, same_mut (a2.trans e) a1, acc ++ [y], upd_same, ?_⟩
  exact (DpAll.keeps k ds acc ims (DpAll.same e ds acc a4)).app (.one (Dp.keeps k d y im hd))
theorem take_more {l : List α} {i : Nat} {x : α} (h : l[i]? = some x) : l.take (i + 1) = l.take i ++ [x] := by
  rw [List.take_add_one, h]
  rfl
theorem map_at {β : Type} {zs : List α} {emb : α → β} {i : Nat} {x : β} (h : (zs.map emb)[i]? = some x) : ∃ z, zs[i]? = some z ∧ x = emb z := by
  rw [List.getElem?_map] at h
  cases e : zs[i]? with
  | none => rw [e] at h; cases h
  | some z => rw [e] at h; exact ⟨z, rfl, (Option.some.inj h).symm⟩
/-- one turn, with the continuations left open -/
def LcTurn (K : PySem.W.Frag) (H : Hp) (g : TG) (tt : TT) (te : TE) (σ : L2.St) (vs : List Nat) (x : V) (b : Bool) (d : PyData) : Prop :=
  ∀ (H' : Hp) (Yes : V → Hp → Prop) (No : Hp → Prop), Same H H' → (∀ y H4, Same H' H4 → b = true → Dp K H4 y d → Yes y H4) → (∀ H4, Same H' H4 → b = false → No H4) →
    g x (wipe σ vs) H' fun σ2 H2 => wipe σ2 vs = wipe σ vs ∧ tt σ2 H2 fun b H3 => if b = true then te σ2 H3 Yes else No H3
theorem x_lcL {p : Addr} (zs : List α) (emb : α → V) (f : α → Bool) (dd : α → PyData) (hx : SqL K H p (zs.map emb)) (hz : zs.length < 50000) (im : ∀ z, Im (dd z))
    (turn : ∀ z ∈ zs, LcTurn K H g tt te σ vs (emb z) (f z) (dd z))
    (done : ∀ Dl H' acc, H Dl = none → Same H H' → H' Dl = some (.lst acc) → DpAll K H' acc ((zs.filter f).map dd) → Q (.ref Dl) H') :
    ∃ a, V.ref p = .ref a ∧ (∃ xs, SqL K H a xs) ∧ LcJ (Itl K a) g tt te vs σ H Q := by
  refine ⟨p, rfl, ⟨_, hx⟩, fun Dl hD => lc_list (K := K) (a := p) (xs := zs.map emb) (fun i H' => LcAt K H Dl (((zs.take i).filter f).map dd) H')
    ⟨hD, same_upd hD, [], upd_same, .nil⟩ (fun i H' _ a => a.2.1.seq hx) (fun i x H' hi a => ?_) (fun H' a => ?_)⟩
  · obtain ⟨z, hz1, rfl⟩ := map_at hi
    have hl : (((zs.take i).filter f).map dd).length < 100000 := by
      rw [List.length_map]
      have h1 := List.length_filter_le f (zs.take i)
      rw [List.length_take] at h1
      omega
    refine turn z (List.mem_of_getElem? hz1) H' _ _ a.2.1 (fun y H4 e hf hd => ?_) (fun H4 e hf => ?_)
    · have := lcAt_more a e hd (im z) (fun d hd => by obtain ⟨q, _, rfl⟩ := List.mem_map.mp hd; exact im q) hl
      rw [take_more hz1, List.filter_append, List.map_append, List.filter_cons, if_pos hf]
      exact this
    · rw [take_more hz1, List.filter_append, List.map_append, List.filter_cons, if_neg (by rw [hf]; exact Bool.false_ne_true)]
      show LcAt K H Dl (_ ++ []) H4
      rw [List.append_nil]
      obtain ⟨a1, a2, acc, a3, a4⟩ := a
      exact ⟨a1, a2.trans e, acc, e _ _ a3, DpAll.same e _ _ a4⟩
  · obtain ⟨a1, a2, acc, a3, a4⟩ := a
    rw [List.length_map, List.take_length] at a4
    exact done Dl H' acc a1 a2 a3 a4
theorem x_lcT {p : Addr} (zs : List α) (ws : List V) (f : α → Bool) (dd : α → PyData) (hx : SqT K H p ws) (hl : ws.length = zs.length) (hz : zs.length < 50000) (im : ∀ z, Im (dd z))
    (turn : ∀ (i : Nat) (z : α) (w : V), zs[i]? = some z → ws[i]? = some w → LcTurn K H g tt te σ vs w (f z) (dd z))
    (done : ∀ Dl H' acc, H Dl = none → Same H H' → H' Dl = some (.lst acc) → DpAll K H' acc ((zs.filter f).map dd) → Q (.ref Dl) H') :
    ∃ a, V.ref p = .ref a ∧ (∃ xs, SqT K H a xs) ∧ LcJ (Itt K a) g tt te vs σ H Q := by
  refine ⟨p, rfl, ⟨_, hx⟩, fun Dl hD => lc_tup (K := K) (a := p) (xs := ws) (fun i H' => LcAt K H Dl (((zs.take i).filter f).map dd) H')
    ⟨hD, same_upd hD, [], upd_same, .nil⟩ (fun i H' _ a => a.2.1.seqT hx) (fun i x H' hi a => ?_) (fun H' a => ?_)⟩
  · have hlt : i < zs.length := by rw [← hl]; exact (List.getElem?_eq_some_iff.mp hi).1
    have hz1 : zs[i]? = some zs[i] := List.getElem?_eq_getElem hlt
    have hl : (((zs.take i).filter f).map dd).length < 100000 := by
      rw [List.length_map]
      have h1 := List.length_filter_le f (zs.take i)
      rw [List.length_take] at h1
      omega
    refine turn i zs[i] x hz1 hi H' _ _ a.2.1 (fun y H4 e hf hd => ?_) (fun H4 e hf => ?_)
    · have := lcAt_more a e hd (im zs[i]) (fun d hd => by obtain ⟨q, _, rfl⟩ := List.mem_map.mp hd; exact im q) hl
      rw [take_more hz1, List.filter_append, List.map_append, List.filter_cons, if_pos hf]
      exact this
    · rw [take_more hz1, List.filter_append, List.map_append, List.filter_cons, if_neg (by rw [hf]; exact Bool.false_ne_true)]
      show LcAt K H Dl (_ ++ []) H4
      rw [List.append_nil]
      obtain ⟨a1, a2, acc, a3, a4⟩ := a
      exact ⟨a1, a2.trans e, acc, e _ _ a3, DpAll.same e _ _ a4⟩
  · obtain ⟨a1, a2, acc, a3, a4⟩ := a
    rw [hl, List.take_length] at a4
    exact done Dl H' acc a1 a2 a3 a4
theorem x_lcW {p : Addr} (zs : List α) (ws : List V) (f : α → Bool) (dd : α → PyData) (hx : SqL K H p ws) (hl : ws.length = zs.length) (hz : zs.length < 50000) (im : ∀ z, Im (dd z))
    (turn : ∀ (i : Nat) (z : α) (w : V), zs[i]? = some z → ws[i]? = some w → LcTurn K H g tt te σ vs w (f z) (dd z))
    (done : ∀ Dl H' acc, H Dl = none → Same H H' → H' Dl = some (.lst acc) → DpAll K H' acc ((zs.filter f).map dd) → Q (.ref Dl) H') :
    ∃ a, V.ref p = .ref a ∧ (∃ xs, SqL K H a xs) ∧ LcJ (Itl K a) g tt te vs σ H Q := by
  refine ⟨p, rfl, ⟨_, hx⟩, fun Dl hD => lc_list (K := K) (a := p) (xs := ws) (fun i H' => LcAt K H Dl (((zs.take i).filter f).map dd) H')
    ⟨hD, same_upd hD, [], upd_same, .nil⟩ (fun i H' _ a => a.2.1.seq hx) (fun i x H' hi a => ?_) (fun H' a => ?_)⟩
  · have hlt : i < zs.length := by rw [← hl]; exact (List.getElem?_eq_some_iff.mp hi).1
    have hz1 : zs[i]? = some zs[i] := List.getElem?_eq_getElem hlt
    have hl : (((zs.take i).filter f).map dd).length < 100000 := by
      rw [List.length_map]
      have h1 := List.length_filter_le f (zs.take i)
      rw [List.length_take] at h1
      omega
    refine turn i zs[i] x hz1 hi H' _ _ a.2.1 (fun y H4 e hf hd => ?_) (fun H4 e hf => ?_)
    · have := lcAt_more a e hd (im zs[i]) (fun d hd => by obtain ⟨q, _, rfl⟩ := List.mem_map.mp hd; exact im q) hl
      rw [take_more hz1, List.filter_append, List.map_append, List.filter_cons, if_pos hf]
      exact this
    · rw [take_more hz1, List.filter_append, List.map_append, List.filter_cons, if_neg (by rw [hf]; exact Bool.false_ne_true)]
      show LcAt K H Dl (_ ++ []) H4
      rw [List.append_nil]
      obtain ⟨a1, a2, acc, a3, a4⟩ := a
      exact ⟨a1, a2.trans e, acc, e _ _ a3, DpAll.same e _ _ a4⟩
  · obtain ⟨a1, a2, acc, a3, a4⟩ := a
    rw [hl, List.take_length] at a4
    exact done Dl H' acc a1 a2 a3 a4
theorem x_lcR1 {n : Int} (f : Nat → Bool) (dd : Nat → PyData) (hb : 0 ≤ n ∧ n < 50000) (im : ∀ z, Im (dd z))
    (turn : ∀ z : Nat, (z : Int) < n → LcTurn K H g tt te σ vs (.int z) (f z) (dd z))
    (done : ∀ Dl H' acc, H Dl = none → Same H H' → H' Dl = some (.lst acc) → DpAll K H' acc (((List.range n.toNat).filter f).map dd) → Q (.ref Dl) H') :
    ∃ j : Int, [V.int n] = [.int j] ∧ -(2 ^ 62) ≤ j ∧ j < 2 ^ 62 ∧ LcJ (Itr 0 j.toNat) g tt te vs σ H Q := by
  refine ⟨n, rfl, by omega, by omega, fun Dl hD => lc_range (lo := 0) (n := n.toNat) (fun i H' => LcAt K H Dl (((List.range i).filter f).map dd) H')
    ⟨hD, same_upd hD, [], upd_same, .nil⟩ (fun i H' hi a => ?_) (fun H' a => ?_)⟩
  · have hl : (((List.range i).filter f).map dd).length < 100000 := by
      rw [List.length_map]
      have h1 := List.length_filter_le f (List.range i)
      rw [List.length_range] at h1
      omega
    rw [Int.zero_add]
    refine turn i (by omega) H' _ _ a.2.1 (fun y H4 e hf hd => ?_) (fun H4 e hf => ?_)
    · have := lcAt_more a e hd (im i) (fun d hd => by obtain ⟨q, _, rfl⟩ := List.mem_map.mp hd; exact im q) hl
      rw [List.range_succ, List.filter_append, List.map_append, List.filter_cons, if_pos hf]
      exact this
    · rw [List.range_succ, List.filter_append, List.map_append, List.filter_cons, if_neg (by rw [hf]; exact Bool.false_ne_true)]
      show LcAt K H Dl (_ ++ []) H4
      rw [List.append_nil]
      obtain ⟨a1, a2, acc, a3, a4⟩ := a
      exact ⟨a1, a2.trans e, acc, e _ _ a3, DpAll.same e _ _ a4⟩
  · obtain ⟨a1, a2, acc, a3, a4⟩ := a
    exact done Dl H' acc a1 a2 a3 a4
/-- a comprehension's block ends where it began -/
theorem x_lcNo {k : Bool → Hp → Prop} {σ2 : L2.St} {A : Prop} (h1 : A) (h : k true H) : A ∧ tYes σ2 H k := ⟨h1, h⟩
end
/-! ### dicts from texts to ints -/
def dOf (m : List Pr) : List (Key × V) := m.map fun p => (Sum.inr p.1, V.int p.2)
def getP (m : List Pr) (x : Str) : Option Int := (m.find? fun p => decide (p.1 = x)).map (·.2)
def putP (m : List Pr) (x : Str) (v : Int) : List Pr := if (m.any fun p => decide (p.1 = x)) = true then m.map (fun p => if p.1 = x then (p.1, v) else p) else m ++ [(x, v)]
theorem dOf_keys (m : List Pr) : (dOf m).map (·.1) = (m.map (·.1)).map Sum.inr := by
  unfold dOf
  rw [List.map_map, List.map_map]
  rfl
theorem dOf_len (m : List Pr) : (dOf m).length = m.length := List.length_map _
theorem inr_dec (x y : Str) : decide ((Sum.inr x : Key) = Sum.inr y) = decide (x = y) := by
  by_cases e : x = y
  · subst e; simp
  · rw [decide_eq_false e, decide_eq_false (fun q => e (Sum.inr.inj q))]
theorem dOf_val (m : List Pr) (x : Str) : valV (dOf m) (Sum.inr x : Key) = (getP m x).map V.int := by
  unfold valV dOf getP
  rw [List.find?_map]
  have : ((fun kv : Key × V => decide (kv.1 = Sum.inr x)) ∘ fun p : Pr => ((Sum.inr p.1 : Key), V.int p.2)) = fun p : Pr => decide (p.1 = x) := by
    funext p
    exact inr_dec _ _
  rw [this, Option.map_map, Option.map_map]
  rfl
theorem dOf_put (m : List Pr) (x : Str) (v : Int) : putK (dOf m) (Sum.inr x : Key) (V.int v) = dOf (putP m x v) := by
  unfold putK putP dOf
  have : ((List.map (fun p : Pr => ((Sum.inr p.1 : Key), V.int p.2)) m).any fun kv => decide (kv.1 = Sum.inr x)) = m.any fun p => decide (p.1 = x) := by
    rw [List.any_map]
    congr 1
    funext p
    exact inr_dec _ _
  rw [this]
  split
  · rw [List.map_map, List.map_map]
    refine List.map_congr_left fun p _ => ?_
    show (if (Sum.inr p.1 : Key) = Sum.inr x then _ else _) = _
    by_cases e : p.1 = x
    · rw [if_pos (by rw [e])]
      show _ = (Sum.inr (if p.1 = x then (p.1, v) else p).1, V.int (if p.1 = x then (p.1, v) else p).2)
      rw [if_pos e]
    · rw [if_neg (fun q => e (Sum.inr.inj q))]
      show _ = (Sum.inr (if p.1 = x then (p.1, v) else p).1, V.int (if p.1 = x then (p.1, v) else p).2)
      rw [if_neg e]
  · rw [List.map_append]
    rfl
theorem getP_any (m : List Pr) (x : Str) : (m.any fun p => decide (p.1 = x)) = decide (x ∈ m.map (·.1)) := by
  rw [Bool.eq_iff_iff]
  simp only [List.any_eq_true, decide_eq_true_eq, List.mem_map]
  
theorem putP_names (m : List Pr) (x : Str) (v : Int) : (putP m x v).map (·.1) = if x ∈ m.map (·.1) then m.map (·.1) else m.map (·.1) ++ [x] := by
  unfold putP
  rw [getP_any]
  by_cases e : x ∈ m.map (·.1)
  · rw [if_pos (by simpa using e), if_pos e, List.map_map]
    refine List.map_congr_left fun p _ => ?_
    show (if p.1 = x then (p.1, v) else p).1 = p.1
    split <;> rfl
  · rw [if_neg (by simpa using e), if_neg e, List.map_append]
    rfl
theorem putP_nd {m : List Pr} {x : Str} {v : Int} (nd : (m.map (·.1)).Nodup) : ((putP m x v).map (·.1)).Nodup := by
  rw [putP_names]
  split
  · exact nd
  · rename_i h
    refine List.nodup_append.mpr ⟨nd, by simp, fun a ha b hb => ?_⟩
    simp at hb
    subst hb
    intro e
    subst e
    exact h ha
theorem putP_len (m : List Pr) (x : Str) (v : Int) : (putP m x v).length ≤ m.length + 1 := by
  have := congrArg List.length (putP_names m x v)
  rw [List.length_map] at this
  rw [this]
  split
  · rw [List.length_map]; omega
  · rw [List.length_append, List.length_map]; exact Nat.le_refl _
theorem getP_put (m : List Pr) (x y : Str) (v : Int) : getP (putP m x v) y = if y = x then some v else getP m y := by
  have h := valV_put (dOf m) (Sum.inr x : Key) (Sum.inr y) (V.int v)
  rw [dOf_put, dOf_val, dOf_val] at h
  by_cases e : y = x
  · rw [if_pos (by rw [e])] at h
    rw [if_pos e]
    cases q : getP (putP m x v) y with
    | none => rw [q] at h; cases h
    | some z => rw [q] at h; cases h; rfl
  · rw [if_neg (fun q => e (Sum.inr.inj q))] at h
    rw [if_neg e]
    cases q : getP (putP m x v) y with
    | none =>
      rw [q] at h
      cases q2 : getP m y with
      | none => rfl
      | some z => rw [q2] at h; cases h
    | some z =>
      rw [q] at h
      cases q2 : getP m y with
      | none => rw [q2] at h; cases h
      | some z2 => rw [q2] at h; cases h; rfl
theorem getP_some {m : List Pr} {x : Str} : (getP m x).isSome = decide (x ∈ m.map (·.1)) := by
  rw [← getP_any]
  unfold getP
  rw [Option.isSome_map]
  induction m with
  | nil => rfl
  | cons p m ih =>
    rw [List.find?_cons, List.any_cons]
    cases h : decide (p.1 = x) with
    | true => rfl
    | false => rw [Bool.false_or]; exact ih
section
variable {K : PySem.W.Frag} {σ : L2.St} {H : Hp} {td ty tx tv : TE} {Q : VK} {D : Ends} {u : TS}
theorem x_dput (h : tv σ H fun v H1 => td σ H1 fun x H2 => ty σ H2 fun y H3 => ∃ a H4, x = .ref a ∧ DPut H3 a y v H4 ∧ D.nx σ H4) : sDPut td ty tv D σ H := h
theorem x_sdput (h : tv σ H fun v H1 => td σ H1 fun x H2 => ty σ H2 fun y H3 => ∃ a H4, x = .ref a ∧ DPut H3 a y v H4 ∧ u D σ H4) : tSeq (sDPut td ty tv) u D σ H := h
theorem x_dget2 (h : td σ H fun x H1 => ∃ a, x = .ref a ∧ IsD H1 a ∧ ty σ H1 fun y H2 => tx σ H2 fun z H3 => ∃ o, DGet H3 a y o ∧ Q (o.getD z) H3) : tDGet2 td ty tx σ H Q := h
theorem x_dget (h : td σ H fun x H1 => ty σ H1 fun y H2 => ∃ a v, x = .ref a ∧ DGet H2 a y (some v) ∧ Q v H2) : tDGet td ty σ H Q := h
theorem x_dnew (h : ∀ p, H p = none → Q (.ref p) (upd H p (.dK []))) : tDNewK σ H Q := h
theorem x_din (h : ty σ H fun y H1 => td σ H1 fun x H2 => ∃ a o, x = .ref a ∧ DGet H2 a y o ∧ Q (.bl o.isSome) H2) : tDIn ty td σ H Q := h
theorem x_dnotin (h : ty σ H fun y H1 => td σ H1 fun x H2 => ∃ a o, x = .ref a ∧ DGet H2 a y o ∧ Q (.bl (!o.isSome)) H2) : tDNotIn ty td σ H Q := h
end
end XS
namespace XS
open PySem PySem.Spec PyProof.Rows L2
/-- the shares so far -/
structure Shares (ps m : List Pr) : Prop where
  nd : (m.map (·.1)).Nodup
  mem : ∀ x, x ∈ m.map (·.1) ↔ x ∈ ps.map (·.1)
  val : ∀ x, (getP m x).getD 0 = shr ps x
  len : m.length ≤ ps.length
theorem Shares.nil : Shares [] [] := ⟨List.nodup_nil, fun x => Iff.rfl, fun x => rfl, Nat.le_refl _⟩
theorem Shares.more {ps m : List Pr} {p : Pr} (S : Shares ps m) : Shares (ps ++ [p]) (putP m p.1 ((getP m p.1).getD 0 + p.2)) := by
  refine ⟨putP_nd S.nd, fun x => ?_, fun x => ?_, ?_⟩
  · rw [putP_names, List.map_append, List.mem_append, ← S.mem x]
    split
    · rename_i h
      constructor
      · exact .inl
      · rintro (h2 | h2)
        · exact h2
        · simp at h2
          subst h2
          exact h
    · rw [List.mem_append]
      rfl
  · rw [getP_put, shr_app, shr_cons, shr_nil, Int.add_zero]
    by_cases e : x = p.1
    · subst e
      rw [if_pos rfl, if_pos rfl, ← S.val]
      rfl
    · rw [if_neg e, if_neg (fun q => e q.symm), S.val, Int.add_zero]
  · have h1 := putP_len m p.1 ((getP m p.1).getD 0 + p.2)
    have h2 := S.len
    rw [List.length_append]
    show _ ≤ ps.length + 1
    omega
theorem Shares.keptOf {ps m : List Pr} {ys : List Str} (S : Shares ps m) (hp : ys.Perm (m.map (·.1))) (hs : sortedS ys = true) : Norm (kept ys (shr ps)) ∧ (∀ x, shr (kept ys (shr ps)) x = shr ps x) ∧ ∀ x ∈ (kept ys (shr ps)).map (·.1), x ∈ ps.map (·.1) := by
  have r : Rising ys := rising_of (hp.nodup_iff.mpr S.nd) hs
  refine ⟨kept_norm r, fun x => kept_shr r (fun y hy => shr_out fun h => hy (hp.mem_iff.mpr ((S.mem y).mpr h))) x, fun x hx => ?_⟩
  rw [kept_names] at hx
  exact (S.mem x).mp (hp.mem_iff.mp (List.mem_filter.mp hx).1)
end XS

namespace XS
open PySem PySem.Spec PyProof.Rows L2
/-- the built-in names are not hidden by the module -/
structure Bl (mg : Str → Option Value) : Prop where
  ValueError : mg "ValueError" = none
  len : mg "len" = none
  isinstance : mg "isinstance" = none
  int : mg "int" = none
  str : mg "str" = none
  bool : mg "bool" = none
  list : mg "list" = none
  tuple : mg "tuple" = none
  dict : mg "dict" = none
  set : mg "set" = none
  range : mg "range" = none
  sorted : mg "sorted" = none
  sum : mg "sum" = none
/-- the script's cell, 0 behind its end -/
def cell (ns : List Int) (k : Int) : Int := if k < ns.length then ns.getD k.toNat 0 else 0
def sp_cell_at (K : PySem.W.Frag) : Sp := fun vs H Q _ => ∃ (a : Addr) (ns : List Int) (k : Int), vs = [.ref a, .int k] ∧ 0 ≤ k ∧ SqL K H a (ns.map V.int) ∧ Q (.int (cell ns k)) H
theorem atI_map {ns : List Int} {k : Int} (h0 : 0 ≤ k) (h : k < ns.length) : atI (ns.map V.int) k = some (.int (ns.getD k.toNat 0)) := by
  obtain ⟨j, rfl⟩ := Int.eq_ofNat_of_zero_le h0
  refine atI_nat ?_
  have hj : j < ns.length := by omega
  rw [List.getElem?_map, List.getElem?_eq_getElem hj]
  simp [List.getD, List.getElem?_eq_getElem hj]
end XS
namespace XS
open PySem PySem.Spec PyProof.Rows L2
section
variable {K : PySem.W.Frag} {H : Hp} {Q : VK} {x y : V}
theorem x_isi {a b : String} {r : Bool} (ty : TyX K H x (.type a)) (e : kitB a b = some r) (q : Q (.bl r) H) : rIsi K [x, .ty b] H Q := ⟨x, .ty b, .type a, .type b, r, rfl, .ty b, ty, kit_ty e, q⟩
theorem k_int_str : kitB "int" "str" = some false := by decide +kernel
theorem k_int_int : kitB "int" "int" = some true := by decide +kernel
theorem k_int_bool : kitB "int" "bool" = some false := by decide +kernel
theorem k_str_str : kitB "str" "str" = some true := by decide +kernel
theorem k_str_int : kitB "str" "int" = some false := by decide +kernel
theorem k_tup_str : kitB "tuple" "str" = some false := by decide +kernel
theorem k_tup_int : kitB "tuple" "int" = some false := by decide +kernel
theorem k_tup_tup : kitB "tuple" "tuple" = some true := by decide +kernel
theorem k_tup_lst : kitB "tuple" "list" = some false := by decide +kernel
theorem k_lst_str : kitB "list" "str" = some false := by decide +kernel
theorem k_lst_int : kitB "list" "int" = some false := by decide +kernel
theorem k_lst_tup : kitB "list" "tuple" = some false := by decide +kernel
theorem k_lst_lst : kitB "list" "list" = some true := by decide +kernel
theorem k_bool_bool : kitB "bool" "bool" = some true := by decide +kernel
theorem k_bool_int : kitB "bool" "int" = some true := by decide +kernel
theorem k_bool_str : kitB "bool" "str" = some false := by decide +kernel
theorem x_is_no {b : Bool} (hx : x ≠ .bl b) (q : Q (.bl false) H) : rIsC x (.bl b) H Q := ⟨b, rfl, by rw [decide_eq_false hx]; exact q⟩
theorem x_is_yes {b : Bool} (q : Q (.bl true) H) : rIsC (.bl b) (.bl b) H Q := ⟨b, rfl, by rw [decide_eq_true rfl]; exact q⟩
end
/-- the first item of a sequence of the kind that d tells, by its place -/
theorem atI_get {xs : List V} {i : Nat} {v : V} (h : xs[i]? = some v) : atI xs (i : Int) = some v := atI_nat h
/-- the numbers by a mix -/
def mixN (m : Int) : Int := (m * 48271 + 11) % 2147483647
theorem mixN_b (m : Int) : 0 ≤ mixN m ∧ mixN m < 2147483647 := ⟨Int.emod_nonneg _ (by decide), Int.emod_lt_of_pos _ (by decide)⟩
def bigTurn (s : Int × Int) : Int × Int := (s.1 * 10 + mixN s.2 / 7 % 10, mixN s.2)
def bigRun : Nat → Int × Int → Int × Int
  | 0, s => s
  | n + 1, s => bigTurn (bigRun n s)
def bigBy (c : Int) : Int := if 0 < c % 4 then c / 4 % 19 - 9 else (if c / 4 % 2 = 0 then 1 else -1) * (bigRun (1 + c / 8 % 60).toNat (0, c)).1
theorem bigRun_b (c : Int) : ∀ n, 0 ≤ (bigRun n (0, c)).1 ∧ (bigRun n (0, c)).1 < 10 ^ n
  | 0 => by
    show (0 : Int) ≤ 0 ∧ (0 : Int) < 10 ^ 0
    decide
  | n + 1 => by
    obtain ⟨h1, h2⟩ := bigRun_b c n
    show 0 ≤ (bigRun n (0, c)).1 * 10 + mixN (bigRun n (0, c)).2 / 7 % 10 ∧ (bigRun n (0, c)).1 * 10 + mixN (bigRun n (0, c)).2 / 7 % 10 < 10 ^ (n + 1)
    have h3 : 0 ≤ mixN (bigRun n (0, c)).2 / 7 % 10 := Int.emod_nonneg _ (by decide)
    have h4 : mixN (bigRun n (0, c)).2 / 7 % 10 < 10 := Int.emod_lt_of_pos _ (by decide)
    rw [Int.pow_succ]
    constructor <;> omega
theorem bigBy_b (c : Int) : (bigBy c).natAbs < 10 ^ 60 := by
  unfold bigBy
  split
  · have h3 : 0 ≤ c / 4 % 19 := Int.emod_nonneg _ (by decide)
    have h4 : c / 4 % 19 < 19 := Int.emod_lt_of_pos _ (by decide)
    have : (c / 4 % 19 - 9).natAbs < 20 := by omega
    exact Nat.lt_of_lt_of_le this (by decide)
  · have h3 : 0 ≤ c / 8 % 60 := Int.emod_nonneg _ (by decide)
    have h4 : c / 8 % 60 < 60 := Int.emod_lt_of_pos _ (by decide)
    obtain ⟨h1, h2⟩ := bigRun_b c (1 + c / 8 % 60).toNat
    have h5 : (10 : Int) ^ (1 + c / 8 % 60).toNat ≤ 10 ^ 60 := by
      have : (1 + c / 8 % 60).toNat ≤ 60 := by omega
      have h6 : (10 : Nat) ^ (1 + c / 8 % 60).toNat ≤ 10 ^ 60 := Nat.pow_le_pow_right (by decide) this
      exact_mod_cast h6
    have h7 : (bigRun (1 + c / 8 % 60).toNat (0, c)).1.natAbs < 10 ^ 60 := by omega
    split
    · rw [Int.one_mul]; exact h7
    · rw [Int.neg_one_mul, Int.natAbs_neg]; exact h7
def sp_whole : Sp := fun vs H Q _ => ∃ i : Int, vs = [.int i] ∧ Q (.bl true) H
def sp_big_by : Sp := fun vs H Q _ => ∃ c : Int, vs = [.int c] ∧ ∀ H', Same H H' → Q (.int (bigBy c)) H'
def sp_alike (n : Nat) (K : PySem.W.Frag) : Sp := fun vs H Q _ => ∃ (g e : V) (d : PyData) (k : Nat), vs = [g, e] ∧ n = k + 1 ∧ Dp K H g d ∧ Dp K H e d ∧ Al k d ∧ Q (.bl true) H
def sp_share (K : PySem.W.Frag) : Sp := fun vs H Q _ => ∃ (v : V) (s : Sm) (x : Str), vs = [v, .str x] ∧ Dp K H v (sumD s) ∧ (s.2.map (·.1)).Nodup ∧ Q (.int (shr s.2 x)) H
/-- made's: pairs in any order, fewer than 64 -/
def sp_made (K : PySem.W.Frag) : Sp := fun vs H Q _ => ∃ (n : Int) (v : V) (ps : List Pr), vs = [.int n, v] ∧ Dp K H v (.list (ps.map prT)) ∧ ps.length < 64 ∧
  ∀ t H' out, Same H H' → Norm out → (∀ x, shr out x = shr ps x) → (∀ x ∈ out.map (·.1), x ∈ ps.map (·.1)) → Dp K H' (.ref t) (sumD (n, out)) → Q (.ref t) H'
def sp_law (K : PySem.W.Frag) : Sp := fun vs H Q _ => ∃ (a : Addr) (ns : List Int), vs = [.ref a] ∧ SqL K H a (ns.map V.int) ∧ ns.length ≤ 63 ∧ ∀ H', Q (.bl true) H'
end XS

namespace XS
open PySem PySem.Spec PyProof.Rows L2
/-! ### the four names -/
/-- a text of codes -/
def tx (l : List Nat) : Str := ⟨l.toArray⟩
theorem tx_cps (l : List Nat) : (tx l).cps.toList = l := by simp [tx]
theorem tx_len (l : List Nat) : (tx l).length = l.length := by show l.toArray.size = l.length; simp
theorem tx_inj {a b : List Nat} (h : tx a = tx b) : a = b := by have := congrArg (fun s : Str => s.cps.toList) h; simpa [tx] using this
theorem tx_app (a b : List Nat) : tx a ++ tx b = tx (a ++ b) := by
  refine str_ext ?_
  show (a.toArray ++ b.toArray).toList = _
  simp [tx]
theorem tx_cut0 (l : List Nat) (k : Nat) : cutS (tx l) none (some (k : Int)) = tx (l.take k) := by
  refine str_ext ?_
  show (((tx l).cps.toList.drop _).take _).toArray.toList = _
  rw [tx_cps, tx_cps, tx_len, HT.sIx_none, HT.sIx_nat]
  simp
theorem tx_cut1 (l : List Nat) (k : Nat) : cutS (tx l) (some (k : Int)) none = tx (l.drop k) := by
  refine str_ext ?_
  show (((tx l).cps.toList.drop _).take _).toArray.toList = _
  rw [tx_cps, tx_cps, tx_len, HT.sIx_none, HT.sIx_nat]
  simp
  rcases Nat.le_total k l.length with h | h
  · rw [Nat.min_eq_left h, List.take_of_length_le (by rw [List.length_drop]; exact Nat.le_refl _)]
  · rw [Nat.min_eq_right h, List.drop_eq_nil_of_le h]
    simp
theorem tx_rep (l : List Nat) (n : Nat) : repS (tx l) n = tx (List.replicate n l).flatten := by
  unfold repS
  rw [tx_cps]
  rfl
def abc : Str := "abcdefghijklmnopqrstuvwxyz"
theorem abc_cps : abc.cps.toList = (List.range 26).map (97 + ·) := by decide +kernel
theorem abc_len : abc.length = 26 := by decide +kernel
/-- the code of the letter by a number -/
def lc (n : Int) : Nat := 97 + (n % 26).toNat
theorem lc_b (n : Int) : 97 ≤ lc n ∧ lc n ≤ 122 := by
  have h1 : 0 ≤ n % 26 := Int.emod_nonneg _ (by decide)
  have h2 : n % 26 < 26 := Int.emod_lt_of_pos _ (by decide)
  unfold lc
  omega
theorem abc_at (n : Int) : atI abc.cps.toList (n % 26) = some (lc n) := by
  have h1 : 0 ≤ n % 26 := Int.emod_nonneg _ (by decide)
  have h2 : n % 26 < 26 := Int.emod_lt_of_pos _ (by decide)
  unfold lc
  obtain ⟨j, hj⟩ := Int.eq_ofNat_of_zero_le h1
  rw [hj]
  refine atI_nat ?_
  rw [abc_cps, List.getElem?_map, List.getElem?_range (by omega)]
  simp
/-- small letters, 1 to 8 -/
def Word (l : List Nat) : Prop := 1 ≤ l.length ∧ l.length ≤ 8 ∧ ∀ c ∈ l, 97 ≤ c ∧ c ≤ 122
def wordRun (c : Int) : Nat → List Nat × Int
  | 0 => ([], c)
  | n + 1 => ((wordRun c n).1 ++ [lc (mixN (wordRun c n).2 / 7)], mixN (wordRun c n).2)
theorem wordRun_len (c : Int) : ∀ n, (wordRun c n).1.length = n
  | 0 => rfl
  | n + 1 => by
    show ((wordRun c n).1 ++ [_]).length = n + 1
    rw [List.length_append, wordRun_len c n]
    rfl
theorem wordRun_abc (c : Int) : ∀ n, ∀ x ∈ (wordRun c n).1, 97 ≤ x ∧ x ≤ 122
  | 0, _, h => by cases h
  | n + 1, x, h => by
    rcases List.mem_append.mp h with h | h
    · exact wordRun_abc c n x h
    · simp at h
      subst h
      exact lc_b _
def sizeBy (c : Int) : Nat := (1 + c % 8).toNat
theorem sizeBy_b (c : Int) : 1 ≤ sizeBy c ∧ sizeBy c ≤ 8 ∧ (sizeBy c : Int) = 1 + c % 8 := by
  have h1 : 0 ≤ c % 8 := Int.emod_nonneg _ (by decide)
  have h2 : c % 8 < 8 := Int.emod_lt_of_pos _ (by decide)
  unfold sizeBy
  omega
def wordBy (c : Int) : List Nat := (wordRun c (sizeBy c)).1
theorem wordBy_ok (c : Int) : Word (wordBy c) := by
  have h := sizeBy_b c
  refine ⟨?_, ?_, wordRun_abc c _⟩ <;> (unfold wordBy; rw [wordRun_len]; omega)
theorem wordBy_len (c : Int) : (wordBy c).length = sizeBy c := wordRun_len c _
/-- the usual names -/
def usual : List Str := ["new", "k", "t", "x", "y", "z", "step", "size", "bound", "some", "and", "above", "nought", "goes", "not", "or", "all", "far", "low", "high", "name", "newone", "number", "it", "lined"]
theorem usual_len : usual.length = 25 := rfl
theorem usual_nd : usual.Nodup := by decide +kernel
def wordB (l : List Nat) : Bool := decide (1 ≤ l.length) && decide (l.length ≤ 8) && l.all fun c => decide (97 ≤ c) && decide (c ≤ 122)
theorem word_of {l : List Nat} (h : wordB l = true) : Word l := by
  unfold wordB at h
  simp only [Bool.and_eq_true, decide_eq_true_eq, List.all_eq_true] at h
  exact ⟨h.1.1, h.1.2, h.2⟩
theorem usual_all : (usual.all fun s => wordB s.cps.toList) = true := by decide +kernel
theorem usual_ok {s : Str} (h : s ∈ usual) : Word s.cps.toList := word_of (List.all_eq_true.mp usual_all s h)
def offs : Nat → Int
  | 0 => 0 | 1 => 7 | 2 => 12 | _ => 18
def spotBy (c : Int) : Nat := (c / 24 % (1 + c % 8)).toNat
theorem spotBy_b (c : Int) : spotBy c < sizeBy c ∧ (spotBy c : Int) = c / 24 % (1 + c % 8) := by
  have h1 : 0 ≤ c % 8 := Int.emod_nonneg _ (by decide)
  have h3 : 0 ≤ c / 24 % (1 + c % 8) := Int.emod_nonneg _ (by omega)
  have h4 : c / 24 % (1 + c % 8) < 1 + c % 8 := Int.emod_lt_of_pos _ (by omega)
  unfold spotBy sizeBy
  omega
def nameBy (c : Int) (k : Nat) : Str :=
  if c / 8 % 3 = 2 then tx (List.replicate (1 + (k + c / 24) % 8).toNat ((wordBy c).take 1)).flatten
  else if c / 8 % 9 = 1 ∨ c / 8 % 9 = 4 ∨ c / 8 % 9 = 7 then usual.getD ((c / 72 + offs k) % 25).toNat ""
  else tx ((wordBy c).take (spotBy c) ++ [lc (c / 192 + 7 * k)] ++ (wordBy c).drop (spotBy c + 1))
def namesBy (c : Int) : List Str := (List.range 4).map (nameBy c)
theorem namesBy_eq (c : Int) : namesBy c = [nameBy c 0, nameBy c 1, nameBy c 2, nameBy c 3] := rfl
theorem namesBy_len (c : Int) : (namesBy c).length = 4 := rfl
theorem usualAt (c : Int) (k : Nat) : ((c / 72 + offs k) % 25).toNat < 25 := by
  have h1 : 0 ≤ (c / 72 + offs k) % 25 := Int.emod_nonneg _ (by decide)
  have h2 : (c / 72 + offs k) % 25 < 25 := Int.emod_lt_of_pos _ (by decide)
  omega
theorem take1_eq (c : Int) : ∃ a, (wordBy c).take 1 = [a] ∧ 97 ≤ a ∧ a ≤ 122 := by
  have h := wordBy_ok c
  cases e : wordBy c with
  | nil => have := h.1; rw [e] at this; simp at this
  | cons a r =>
    refine ⟨a, rfl, h.2.2 a (by rw [e]; exact List.mem_cons_self ..)⟩
theorem flat_one (n a : Nat) : (List.replicate n [a]).flatten = List.replicate n a := by
  induction n with
  | zero => rfl
  | succ n ih => rw [List.replicate_succ, List.flatten_cons, ih]; rfl
theorem nameBy_ok (c : Int) (k : Nat) : Word (nameBy c k).cps.toList := by
  unfold nameBy
  split
  · obtain ⟨a, e, ha⟩ := take1_eq c
    have h1 : 0 ≤ (k + c / 24) % 8 := Int.emod_nonneg _ (by decide)
    have h2 : (k + c / 24) % 8 < 8 := Int.emod_lt_of_pos _ (by decide)
    rw [tx_cps, e, flat_one]
    refine ⟨?_, ?_, fun x hx => ?_⟩
    · rw [List.length_replicate]; omega
    · rw [List.length_replicate]; omega
    · rw [(List.mem_replicate.mp hx).2]; exact ha
  · split
    · rw [List.getD_eq_getElem?_getD, List.getElem?_eq_getElem (by rw [usual_len]; exact usualAt c k)]
      exact usual_ok (List.getElem_mem _)
    · have h := wordBy_ok c
      have hs := spotBy_b c
      have hl := wordBy_len c
      have hz := sizeBy_b c
      rw [tx_cps]
      refine ⟨?_, ?_, fun x hx => ?_⟩
      · rw [List.length_append, List.length_append]; simp; omega
      · rw [List.length_append, List.length_append, List.length_take, List.length_drop]; simp; omega
      · rcases List.mem_append.mp hx with hx | hx
        · rcases List.mem_append.mp hx with hx | hx
          · exact h.2.2 x (List.mem_of_mem_take hx)
          · simp at hx; subst hx; exact lc_b _
        · exact h.2.2 x (List.mem_of_mem_drop hx)
theorem nd_inj {α : Type} {l : List α} (nd : l.Nodup) {i j : Nat} (hi : i < l.length) (hj : j < l.length) (e : l[i] = l[j]) : i = j := by
  rcases Nat.lt_trichotomy i j with h | h | h
  · exact absurd e (List.pairwise_iff_getElem.mp nd i j hi hj h)
  · exact h
  · exact absurd e.symm (List.pairwise_iff_getElem.mp nd j i hj hi h)
theorem nameBy_ne (c : Int) {j k : Nat} (hj : j < k) (hk : k < 4) : nameBy c j ≠ nameBy c k := by
  intro e
  unfold nameBy at e
  by_cases h1 : c / 8 % 3 = 2
  · rw [if_pos h1, if_pos h1] at e
    obtain ⟨a, ea, ha⟩ := take1_eq c
    rw [ea, flat_one, flat_one] at e
    have := congrArg List.length (tx_inj e)
    rw [List.length_replicate, List.length_replicate] at this
    omega
  · rw [if_neg h1, if_neg h1] at e
    by_cases h2 : c / 8 % 9 = 1 ∨ c / 8 % 9 = 4 ∨ c / 8 % 9 = 7
    · rw [if_pos h2, if_pos h2] at e
      have a1 := usualAt c j
      have a2 := usualAt c k
      rw [List.getD_eq_getElem?_getD, List.getD_eq_getElem?_getD, List.getElem?_eq_getElem (by rw [usual_len]; exact a1), List.getElem?_eq_getElem (by rw [usual_len]; exact a2)] at e
      have := nd_inj usual_nd _ _ e
      have h3 : k = 1 ∨ k = 2 ∨ k = 3 := by omega
      have h4 : j = 0 ∨ j = 1 ∨ j = 2 := by omega
      rcases h3 with rfl | rfl | rfl <;> rcases h4 with rfl | rfl | rfl <;> first | omega | (simp only [offs] at this; omega)
    · rw [if_neg h2, if_neg h2] at e
      have e := tx_inj e
      have hl : ((wordBy c).take (spotBy c)).length = ((wordBy c).take (spotBy c)).length := rfl
      rw [List.append_assoc, List.append_assoc] at e
      have := (List.append_inj e rfl).2
      simp only [List.cons_append, List.nil_append, List.cons.injEq] at this
      have h5 := this.1
      unfold lc at h5
      have b1 : 0 ≤ (c / 192 + 7 * (j : Int)) % 26 := Int.emod_nonneg _ (by decide)
      have b2 : 0 ≤ (c / 192 + 7 * (k : Int)) % 26 := Int.emod_nonneg _ (by decide)
      have h6 : (c / 192 + 7 * (j : Int)) % 26 = (c / 192 + 7 * (k : Int)) % 26 := by omega
      omega
theorem namesBy_nd (c : Int) : (namesBy c).Nodup := by
  rw [namesBy_eq]
  simp only [List.nodup_cons, List.mem_cons, List.not_mem_nil, or_false, not_or, not_false_eq_true, List.nodup_nil, and_true, true_and]
  refine ⟨⟨nameBy_ne c (by decide) (by decide), nameBy_ne c (by decide) (by decide), nameBy_ne c (by decide) (by decide)⟩, ⟨nameBy_ne c (by decide) (by decide), nameBy_ne c (by decide) (by decide)⟩, nameBy_ne c (by decide) (by decide)⟩
theorem namesBy_word {c : Int} {x : Str} (h : x ∈ namesBy c) : Word x.cps.toList := by
  unfold namesBy at h
  obtain ⟨k, _, rfl⟩ := List.mem_map.mp h
  exact nameBy_ok c k
def sp_names_by : Sp := fun vs H Q _ => ∃ c : Int, vs = [.int c] ∧ ∀ l H', H l = none → Same H H' → H' l = some (.lst ((namesBy c).map V.str)) → Q (.ref l) H'
theorem names_at {c n : Int} (h1 : 0 ≤ n) (h2 : n < 4) : ∃ x, atI ((namesBy c).map V.str) n = some (.str x) ∧ x ∈ namesBy c := by
  have h : n = 0 ∨ n = 1 ∨ n = 2 ∨ n = 3 := by omega
  rcases h with rfl | rfl | rfl | rfl
  · exact ⟨nameBy c 0, atI_get (i := 0) rfl, by rw [namesBy_eq]; simp⟩
  · exact ⟨nameBy c 1, atI_get (i := 1) rfl, by rw [namesBy_eq]; simp⟩
  · exact ⟨nameBy c 2, atI_get (i := 2) rfl, by rw [namesBy_eq]; simp⟩
  · exact ⟨nameBy c 3, atI_get (i := 3) rfl, by rw [namesBy_eq]; simp⟩
theorem im_pairs (ps : List Pr) : ∀ d ∈ ps.map prT, Im d := fun d hd => by
  obtain ⟨p, _, rfl⟩ := List.mem_map.mp hd
  exact im_pair p
theorem pair_at {K : PySem.W.Frag} {H : Hp} {us : List V} {ps : List Pr} {i : Nat} {p : Pr} {u : V} (d : DpAll K H us (ps.map prT)) (hp : ps[i]? = some p) (hu : us[i]? = some u) : Dp K H u (prT p) := by
  obtain ⟨u', h1, h2⟩ := d.get (i := i) (d := prT p) (by rw [List.getElem?_map, hp]; rfl)
  rw [hu] at h1
  cases h1
  exact h2
theorem range_getD {α : Type} (ys : List α) (d : α) : (List.range ys.length).map (fun k => ys.getD k d) = ys := by
  refine List.ext_getElem? fun i => ?_
  rw [List.getElem?_map]
  by_cases h : i < ys.length
  · rw [List.getElem?_range h, List.getElem?_eq_getElem h]
    show some (ys.getD i d) = _
    rw [List.getD_eq_getElem?_getD, List.getElem?_eq_getElem h]
    rfl
  · rw [List.getElem?_eq_none (by rw [List.length_range]; omega), List.getElem?_eq_none (by omega)]
    rfl
theorem range_pick {α β : Type} (ys : List α) (d : α) {n : Nat} (h : ys.length = n) (f : α → Bool) (g : α → β) : ((List.range n).filter fun k => f (ys.getD k d)).map (fun k => g (ys.getD k d)) = (ys.filter f).map g := by
  subst h
  conv => rhs; rw [← range_getD ys d]
  rw [List.filter_map, List.map_map]
  rfl
end XS

namespace XS
open PySem PySem.Spec PyProof.Rows L2
/-! ### the rules that name the written part, with it as a letter -/
section
variable {X : Cx} {e e2 l tg : Expr} {es : List Expr} {te tl ta to : TE} {t : TA} {p pos : Pos}
theorem ix_listK (K : PySem.W.Frag) (hK : X.K = K := by rfl) : IxR X (rIxL K) := by subst hK; exact ix_list
theorem ix_tupK (K : PySem.W.Frag) (hK : X.K = K := by rfl) : IxR X (rIxT K) := by subst hK; exact ix_tup
theorem ix_seqK (K : PySem.W.Frag) (hK : X.K = K := by rfl) : IxR X (rIx K) := by subst hK; exact ix_seq
theorem sl_listK (K : PySem.W.Frag) (hK : X.K = K := by rfl) : SlR X (rSlL K) := by subst hK; exact sl_list
theorem sl_tupK (K : PySem.W.Frag) (hK : X.K = K := by rfl) : SlR X (rSlA K) := by subst hK; exact sl_tupA
theorem pi_listK (K : PySem.W.Frag) (hl : PE X l tl) (hK : X.K = K := by rfl) : PI X tg l (iList K tl) := by subst hK; exact pi_list hl
theorem pi_tupK (K : PySem.W.Frag) (hl : PE X l tl) (hK : X.K = K := by rfl) : PI X tg l (iTup K tl) := by subst hK; exact pi_tup hl
theorem pg_tupK (K : PySem.W.Frag) {k n : Nat} {g : TGs} (hc : X.calm = true) (h : PGs X es g) (hK : X.K = K := by rfl)
    (hn : (assignEach es X.env).length = n := by rfl) (hst : (assignEach es X.env).findIdx? (·.1) = none := by rfl) : PG X (.Tuple es k pos) (gTup K n g) := by subst hK; exact pg_tup hc h hn hst
def rLenK (K : PySem.W.Frag) : List V → Hp → VK → Prop := fun xs H Q => ∃ p ys, xs = [.ref p] ∧ (SqL K H p ys ∨ SqT K H p ys) ∧ Q (.int ys.length) H
def rListK (K : PySem.W.Frag) : List V → Hp → VK → Prop := fun xs H Q => ∃ p ys, xs = [.ref p] ∧ (SqL K H p ys ∨ SqT K H p ys) ∧ ∀ l, H l = none → Q (.ref l) (upd H l (.lst ys))
theorem call_isiK (K : PySem.W.Frag) (hK : X.K = K := by rfl) : CallR X (.builtin "isinstance") (rIsi K) := by subst hK; exact call_isi
theorem cr_sumK (K : PySem.W.Frag) (hc : X.calm = true) (hK : X.K = K := by rfl) : CallR X (.builtin "sum") (rSum K) := by subst hK; exact cr_sum hc
theorem cr_sortedSK (K : PySem.W.Frag) (hK : X.K = K := by rfl) : CallR X (.builtin "sorted") (rSortedS K) := by subst hK; exact cr_sortedS
theorem call_lenK (K : PySem.W.Frag) (hK : X.K = K := by rfl) : CallR X (.builtin "len") (rLenK K) := by subst hK; exact call_len_seq
theorem call_listK (K : PySem.W.Frag) (hK : X.K = K := by rfl) : CallR X (.type "list") (rListK K) := by subst hK; exact call_list_of
theorem op_inK (K : PySem.W.Frag) (hK : X.K = K := by rfl) : OpR X (compareOp .In) (rIn K false) := by subst hK; exact op_in_seq
theorem op_notInK (K : PySem.W.Frag) (hK : X.K = K := by rfl) : OpR X (compareOp .NotIn) (rIn K true) := by subst hK; exact op_notIn_seq
theorem op_catK (K : PySem.W.Frag) (hK : X.K = K := by rfl) : OpR X (binaryOp .Add) (rCatA K) := by subst hK; exact op_catA
theorem op_repK (K : PySem.W.Frag) (hK : X.K = K := by rfl) : OpR X (binaryOp .Mult) (rRepT K) := by subst hK; exact op_repT
theorem pa_starK (K : PySem.W.Frag) (he : PE X e te) (hr : PA X es t) (hK : X.K = K := by rfl) (hs : starEach (.Starred e p :: es) X.env = (true, eval e X.env) :: starEach es X.env := by rfl) : PA X (.Starred e p :: es) (StX.tStar K te t) := by subst hK; exact StX.pa_star he hr hs
/-- tuple(xs) of a list or a tuple -/
def rTupK (K : PySem.W.Frag) : List V → Hp → VK → Prop := fun xs H Q => ∃ p ys, xs = [.ref p] ∧ ((SqL K H p ys ∧ ∀ l, H l = none → Q (.ref l) (upd H l (.tup ys))) ∨ (SqT K H p ys ∧ Q (.ref p) H))
theorem call_tupK (K : PySem.W.Frag) (hK : X.K = K := by rfl) : CallR X (.type "tuple") (rTupK K) := by subst hK; exact call_tuple_of
end
section
variable {K : PySem.W.Frag} {H : Hp} {Q : VK}
theorem x_lenL {p : Addr} {ys : List V} (h : SqL K H p ys) (q : Q (.int ys.length) H) : rLenK K [.ref p] H Q := ⟨p, ys, rfl, .inl h, q⟩
theorem x_lenT {p : Addr} {ys : List V} (h : SqT K H p ys) (q : Q (.int ys.length) H) : rLenK K [.ref p] H Q := ⟨p, ys, rfl, .inr h, q⟩
theorem x_listL {p : Addr} {ys : List V} (h : SqL K H p ys) (q : ∀ l H1, H l = none → Same H H1 → H1 l = some (.lst ys) → Q (.ref l) H1) : rListK K [.ref p] H Q := ⟨p, ys, rfl, .inl h, fun l hl => q l _ hl (same_upd hl) upd_same⟩
theorem x_tupL {p : Addr} {ys : List V} (h : SqL K H p ys) (q : ∀ l H1, H l = none → Same H H1 → H1 l = some (.tup ys) → Q (.ref l) H1) : rTupK K [.ref p] H Q := ⟨p, ys, rfl, .inl ⟨h, fun l hl => q l _ hl (same_upd hl) upd_same⟩⟩
theorem x_sum {p : Addr} {ns : List Int} (h : SqL K H p (ns.map V.int)) (q : Q (.int ns.sum) H) : rSum K [.ref p] H Q := ⟨p, ns, rfl, h, q⟩
theorem x_sortS {p : Addr} {xs : List Str} (h : SqL K H p (xs.map V.str)) (hz : xs.length < 64) (q : ∀ ys l H1, ys.Perm xs → sortedS ys = true → H l = none → Same H H1 → H1 l = some (.lst (ys.map V.str)) → Q (.ref l) H1) : rSortedS K [.ref p] H Q :=
  ⟨p, xs, rfl, h, hz, fun ys l h1 h2 h3 => q ys l _ h1 h2 h3 (same_upd h3) upd_same⟩
end
/-! ### data that == looks at -/
theorem plainAll {xs : List PyData} (h : ∀ d ∈ xs, d.plain = true) : PyData.plainAll xs = true := by
  induction xs with
  | nil => rfl
  | cons x xs ih =>
    have h1 := h x (List.mem_cons_self ..)
    have h2 := ih fun d hd => h d (List.mem_cons_of_mem _ hd)
    simp [PyData.plainAll, h1, h2]
theorem depthAll_le {xs : List PyData} {n : Nat} (h : ∀ d ∈ xs, d.depth ≤ n) : PyData.depthAll xs ≤ n := by
  induction xs with
  | nil => simp [PyData.depthAll]
  | cons x xs ih =>
    have h1 := h x (List.mem_cons_self ..)
    have h2 := ih fun d hd => h d (List.mem_cons_of_mem _ hd)
    simp only [PyData.depthAll]
    omega
/-- without dicts, at most 64 deep -/
structure Flt (d : PyData) : Prop where
  pl : d.plain = true
  dp : d.depth ≤ 64
theorem al_lay {n : Nat} {d : PyData} (h : Al n d) : d.plain = true ∧ d.depth ≤ n + 1 := by
  induction h with
  | int i => exact ⟨rfl, by simp [PyData.depth]⟩
  | str x => exact ⟨rfl, by simp [PyData.depth]⟩
  | tru => exact ⟨rfl, by simp [PyData.depth]⟩
  | non => exact ⟨rfl, by simp [PyData.depth]⟩
  | tup _ _ ih =>
    have h1 := plainAll fun d hd => (ih d hd).1
    have h2 := depthAll_le fun d hd => (ih d hd).2
    refine ⟨by simpa [PyData.plain] using h1, ?_⟩
    simp only [PyData.depth]
    omega
  | lst _ _ ih =>
    have h1 := plainAll fun d hd => (ih d hd).1
    have h2 := depthAll_le fun d hd => (ih d hd).2
    refine ⟨by simpa [PyData.plain] using h1, ?_⟩
    simp only [PyData.depth]
    omega
theorem al_flt {n : Nat} {d : PyData} (h : Al n d) (hn : n ≤ 60) : Flt d := ⟨(al_lay h).1, by have := (al_lay h).2; omega⟩
theorem al_pairs {n : Nat} {ps : List Pr} (h : ps.length ≤ 1000) : Al (n + 2) (.list (ps.map prT)) := .lst (fun d hd => by
  obtain ⟨p, _, rfl⟩ := List.mem_map.mp hd
  exact al_pair p) (by rw [List.length_map]; exact h)
def rEqP (K : PySem.W.Frag) : R2 := fun x y H Q => ∃ d e, Dp K H x d ∧ Dp K H y e ∧ Flt d ∧ Flt e ∧ Q (.bl (PyData.eqv d e)) H
def rNeP (K : PySem.W.Frag) : R2 := fun x y H Q => ∃ d e, Dp K H x d ∧ Dp K H y e ∧ Flt d ∧ Flt e ∧ Q (.bl (!PyData.eqv d e)) H
theorem op_eqK {X : Cx} (K : PySem.W.Frag) (hu : X.A.units + 64 < cLine) (hK : X.K = K := by rfl) : OpR X (compareOp .Eq) (rEqP K) := by
  subst hK
  intro pins s σ H x y v u Q I rx ry h
  obtain ⟨d, e, hd, he, sd, se, q⟩ := h
  obtain ⟨as, r1⟩ := Dp.reads I d x v hd rx
  obtain ⟨bs, r2⟩ := Dp.reads I e y u he ry
  exact SeqAt.eq_plain r1 r2 sd.pl se.pl (by have := sd.dp; have := se.dp; omega) ⟨.bl _, H, I, rfl, q⟩
theorem op_neK {X : Cx} (K : PySem.W.Frag) (hu : X.A.units + 64 < cLine) (hK : X.K = K := by rfl) : OpR X (compareOp .NotEq) (rNeP K) := by
  subst hK
  intro pins s σ H x y v u Q I rx ry h
  obtain ⟨d, e, hd, he, sd, se, q⟩ := h
  obtain ⟨as, r1⟩ := Dp.reads I d x v hd rx
  obtain ⟨bs, r2⟩ := Dp.reads I e y u he ry
  exact SeqAt.ne_plain r1 r2 sd.pl se.pl (by have := sd.dp; have := se.dp; omega) ⟨.bl _, H, I, rfl, q⟩
section
variable {K : PySem.W.Frag} {H : Hp} {Q : VK} {x y : V}
theorem x_eqD {d e : PyData} (h1 : Dp K H x d) (h2 : Dp K H y e) (a1 : Flt d) (a2 : Flt e) (q : Q (.bl (PyData.eqv d e)) H) : rEqP K x y H Q := ⟨d, e, h1, h2, a1, a2, q⟩
theorem x_neD {d e : PyData} (h1 : Dp K H x d) (h2 : Dp K H y e) (a1 : Flt d) (a2 : Flt e) (q : Q (.bl (!PyData.eqv d e)) H) : rNeP K x y H Q := ⟨d, e, h1, h2, a1, a2, q⟩
end
theorem flt_nil : Flt (.list []) := ⟨rfl, by simp [PyData.depth, PyData.depthAll]⟩
theorem x_cut {t u : TS} {D : Ends} {σ : L2.St} {H : Hp} (Mid : L2.St → Hp → Prop) (h1 : t { D with nx := Mid } σ H) (h2 : ∀ σ' H', Mid σ' H' → u D σ' H') : Evl.tCut t u D σ H := ⟨Mid, h1, h2⟩
theorem eqv_nil (ds : List PyData) : PyData.eqv (.list ds) (.list []) = ds.isEmpty := by
  cases ds <;> simp [PyData.eqv, PyData.eqvAll]
section
variable {K : PySem.W.Frag} {σ : L2.St} {H : Hp} {te : TE} {t : TA} {k : List V → Hp → Prop}
theorem x_star (h : te σ H fun x H1 => ∃ p xs, x = V.ref p ∧ (SqT K H1 p xs ∨ SqL K H1 p xs) ∧ t σ H1 fun ys H2 => k (xs ++ ys) H2) : StX.tStar K te t σ H k := h
end
end XS

namespace XS
open PySem PySem.Spec PyProof.Rows L2 L2H
/-! ### isinstance of an error that the context bears -/
theorem call_isP {X : Cx} {a D : Addr} {oe : Obj} (hp : (a, oe) ∈ X.pn) (C : ExcC X.K D) (hz : Zc (.ref D) none oe) (hf : ∃ vs, oe.data = .fields vs) : CallR X (.builtin "isinstance") (rIsE X.K D a) := by
  intro pins s σ H xs us Q I r h
  obtain ⟨c, cv, b, rfl, hcv, e, q⟩ := h
  obtain ⟨u1, u2, rfl, r1, r2⟩ := vals2 r
  obtain rfl : u1 = Value.ref a := r1
  have ec := hcv _ r2
  subst ec
  have hget := (I.pin (a, oe) (List.mem_append_left _ hp)).1
  have J : PySem.W.InstAt s.heap a oe D none := by
    obtain ⟨vs, hv⟩ := hf
    cases oe with
    | mk oc od oda osl =>
      obtain ⟨z1, z2⟩ := hz
      simp only at z1 z2 hv
      subst z1 z2 hv
      exact ⟨hget, rfl, rfl, trivial⟩
  exact PySem.W.kia_one (PySem.W.handS_kitx_exc C.hg C.hk C.hs C.hd C.ha C.hn C.ht C.hm) I.kIn J e (fun z => nomatch z) fun tk => ⟨.bl b, H, I.kept (t' := tk) fun _ _ z => z, rfl, q⟩
/-! ### a def that takes the error that is handled: nothing leaves it -/
structure FnP (P : Program) (w : World) (K : PySem.W.Frag) (mg : Str → Option Value) (base : Heap) (k : Nat) (f : Addr) (fd : FuncData) (ps : List Str) (sp : Addr → Addr → Sp) : Prop where
  len : ∀ a D vs H Q E, sp a D vs H Q E → vs.length = ps.length
  run : ∀ (A : Around) (outer : List Env) (s : Shared) (H : Hp) (args : Args) (us : List Value) (vs : List V) (Q : VK) (p : Addr × Obj) (D : Addr), RoomH k A → PinOk outer H s p → Zc (.ref D) none p.2 → (∃ vs, p.2.data = .fields vs) →
    Env0 P w K mg base A outer s H → BindsTo s fd args (ps.zip us) → Vals vs us → sp p.1 D vs H Q E0 → codeAny (model P w) A (.call (.ref f) args) (CR CX0 outer P w H s Q E0) s
theorem fnP_of {P : Program} {w : World} {K : PySem.W.Frag} {mg : Str → Option Value} {base : Heap} {k : Nat} {x qual : Str} {st : Stmt} {f : Addr} {fd : FuncData} {N ps : List Str} {sp : Addr → Addr → Sp} (F : Fun K x qual st f fd) (S : FnScope N ps (defScope st))
    (len : ∀ a D vs H Q E, sp a D vs H Q E → vs.length = ps.length)
    (hbody : ∀ (cdv : Value) (A : Around) (outer : List Env) (s : Shared) (H : Hp) (vs : List V) (Q : VK) (p : Addr × Obj) (D : Addr), Zc (.ref D) none p.2 → (∃ vs, p.2.data = .fields vs) → RoomH k (A.deeper (envOfC qual (defScope st) s.heap.objs.size f cdv)) → sp p.1 D vs H Q E0 →
      ∃ t, PSs (cxH CX0 P w K mg base N qual (defScope st) f cdv A outer s H E0 p) (defBody st) t ∧ t { nx := fun _ H' => Q .non H', rt := Q } (L2.start N vs) H) : FnP P w K mg base (k + 1) f fd ps sp := by
  obtain ⟨oc, od, kV, doc, pm, an, cdv, ct, osl, rfl, lk, hcd⟩ := F.ex
  refine ⟨len, fun A outer s H args us vs Q p D hr hpin hz hf e0 hb r hsp => ?_⟩
  have KX : K.In s.heap := e0.mod.kin.keeps fun b o e => (e0.bs b o e).1
  have lim : s.heap.NoLimit := e0.mod.nolimit.keeps fun b o e => (e0.bs b o e).1
  refine codeAny_call_function hr.depth (KX _ _ lk) rfl S.co S.gen rfl (PySem.W.codeRec_of KX hcd) (hb _ _ _ _ ?_)
  refine wpAny_newFunctionEnv_cells S.kind (fun y hy => ?_) fun env he s1 x => ?_
  · rcases S.par y.1 (List.of_mem_zip hy).1 with c | c
    · exact .inl c
    · exact .inr ⟨c, PySem.W.cellsFrom_some _ _ _ (.inl c)⟩
  subst he
  refine ⟨lim.keeps x.toInCall.keep, codeAny_func ?_⟩
  obtain ⟨t, ht, hq⟩ := hbody cdv A outer s H vs Q p D hz hf (hr.deeper _) hsp
  have I := inv_startH (CX := CX0) (P := P) (w := w) (K := K) (mg := mg) (base := base) (E := E0) S hpin e0 (len _ _ _ _ _ _ hsp) r x
  refine wpAny_mono (ht.run [] s1 _ H _ I hq) (fun fl s' hs => ?_) fun e s' hs => hs
  cases fl with
  | ret u =>
    obtain ⟨v, σ', H', J, rv, z⟩ := hs
    exact ⟨v, H', J.os, J.bare, J.base, J.hok, rv, z⟩
  | next =>
    obtain ⟨σ', H', J, z⟩ := hs
    exact ⟨V.non, H', J.os, J.bare, J.base, J.hok, rfl, z⟩
  | brk =>
    obtain ⟨_, _, _, z⟩ := hs
    exact False.elim z
  | cont =>
    obtain ⟨_, _, _, z⟩ := hs
    exact False.elim z
def DefP (P : Program) (w : World) (K : PySem.W.Frag) (mg : Str → Option Value) (base : Heap) (k : Nat) (nm : Str) (ps : List Str) (sp : Addr → Addr → Sp) : Prop :=
  ∃ f fd, FnP P w K mg base k f fd ps sp ∧ mg nm = some (.ref f) ∧ PySem.W.keepIn K (.ref f) = true ∧ Binds K fd ps []
theorem FunAt.okP {P : Program} {w : World} {K : PySem.W.Frag} {mg : Str → Option Value} {base : Heap} {k : Nat} {nm : Str} {st : Stmt} {N ps : List Str} {sp : Addr → Addr → Sp} (F : FunAt K mg nm st ps) (S : FnScope N ps (defScope st))
    (len : ∀ a D vs H Q E, sp a D vs H Q E → vs.length = ps.length)
    (hbody : ∀ (f : Addr) (cdv : Value) (A : Around) (outer : List Env) (s : Shared) (H : Hp) (vs : List V) (Q : VK) (p : Addr × Obj) (D : Addr), Zc (.ref D) none p.2 → (∃ vs, p.2.data = .fields vs) → RoomH k (A.deeper (envOfC nm (defScope st) s.heap.objs.size f cdv)) → sp p.1 D vs H Q E0 →
      ∃ t, PSs (cxH CX0 P w K mg base N nm (defScope st) f cdv A outer s H E0 p) (defBody st) t ∧ t { nx := fun _ H' => Q .non H', rt := Q } (L2.start N vs) H) : DefP P w K mg base (k + 1) nm ps sp := by
  obtain ⟨f, fd, F, a, b⟩ := F
  exact ⟨f, fd, fnP_of F S len (hbody f), a, F.kp, b⟩
/-- its call in the suite: the error at a, of the class cls, without a dict -/
def tCallP (a : Addr) (cls : Value) (d : Option Addr) (sp : Addr → Addr → Sp) (t : TA) : TE := fun σ H Q => t σ H fun vs H1 => ∃ D, cls = .ref D ∧ d = none ∧ sp a D vs H1 Q E0
section
variable {X : Cx} {k : Nat} {ps : List Str} {sp : Addr → Addr → Sp} {x : Str} {q pos : Pos} {e : Expr} {es : List Expr} {t : TA} {a : Addr} {oe : Obj} {cls : Value} {d : Option Addr}
theorem pe_callP (D : DefP X.prog X.w X.K X.mg X.base k x ps sp) (hp : (a, oe) ∈ X.pn) (hz : Zc cls d oe) (hf : ∃ vs, oe.data = .fields vs) (hr : RoomH k X.A) (hg : Gl X x) (ha : PA X (e :: es) t) (hdb : (x == ("__debug__" : Str)) = false := by decide)
    (he : starEach (e :: es) X.env = (false, eval e X.env) :: starEach es X.env := by rfl) (hpl : (backTo pos (starEach es X.env)).any (·.1) = false := by rfl) : PE X (.Call (.Name x q) (e :: es) [] pos) (tCallP a cls d sp t) := by
  obtain ⟨f, fd, F, hm, hk, hb⟩ := D
  refine ⟨fun pins s σ H Q I h => ?_⟩
  refine wpAny_Call_Name_kw (ld_glob I hg hm ?_ hdb)
  refine PySem.W.callWith_K (h₀ := X.base) I.ok.mod.kin hk (thn (ha.run pos pins s σ H _ I h) fun us s1 ⟨vs, H1, I1, r, D, e1, e2, z⟩ => ⟨I1.kIn, ?_⟩) he hpl
  subst e1 e2
  have hl : us.length = ps.length := by rw [← r.length]; exact F.len _ _ _ _ _ _ z
  have b := hb s1 us I1.kIn (by rw [List.append_nil]; exact hl)
  rw [List.append_nil] at b
  have P1 := I1.pin (a, oe) (List.mem_append_left _ hp)
  have hpin : PinOk X.stack H1 s1 (a, oe) := ⟨P1.1, P1.2.1, fun hm => (List.mem_cons.mp (I1.stkSub a hm)).elim P1.2.2.1 P1.2.2.2.1, P1.2.2.2.2⟩
  refine wpAny_call (codeAny_mono (F.run X.A X.stack s1 H1 ⟨us, []⟩ us vs Q (a, oe) D hr hpin hz hf I1.env0 b r z) fun r s' hq => ?_)
  cases r with
  | error e => exact False.elim hq
  | ok fl =>
    cases fl with
    | ret u => exact I1.after hq
    | next => exact False.elim hq
    | brk => exact False.elim hq
    | cont => exact False.elim hq
end
theorem roomH_mark {k j : Nat} {A : Around} {v : Option Value} (r : Room k A) (h : j ≤ k) : RoomH j (A.mark v) := ⟨(roomH_of (r.mono h)).dp, (roomH_of (r.mono h)).un⟩
/-- a call that may raise -/
theorem pe_callX {X : Cx} {k : Nat} {ps : List Str} {sp : Sp} {E : L2.St → XK} {x : Str} {q pos : Pos} {e : Expr} {es : List Expr} {t : TA} (D : DefAt X.prog X.w X.K X.mg X.base (L2.CX X.prog X.w) k x ps sp) (hr : Room k X.A) (hg : Gl X x)
    (hx : ∀ σ, PassesAt (L2.CX X.prog X.w) X σ (E σ)) (ha : PA X (e :: es) t) (hdb : (x == ("__debug__" : Str)) = false := by decide) (he : starEach (e :: es) X.env = (false, eval e X.env) :: starEach es X.env := by rfl)
    (hpl : (backTo pos (starEach es X.env)).any (·.1) = false := by rfl) : PE X (.Call (.Name x q) (e :: es) [] pos) (tCallS sp E t) := by
  obtain ⟨f, fd, F, a, b, c⟩ := D
  exact pe_callS F hr hg a b c hx ha hdb he hpl
/-- a promise by the body's reading, where something may be raised -/
theorem FunAt.okX {P : Program} {w : World} {K : PySem.W.Frag} {mg : Str → Option Value} {base : Heap} {nm : Str} {st : Stmt} {ps N : List Str} {sp : Sp} {k : Nat} (F : FunAt K mg nm st ps) (S : FnScope N ps (defScope st)) (len : ∀ vs H Q E, sp vs H Q E → vs.length = ps.length)
    (hbody : ∀ (f : Addr) (cdv : Value) (A : Around) (outer : List Env) (s : Shared) (H : Hp) (vs : List V) (Q : VK) (E : XK), Room k (A.deeper (envOfC nm (defScope st) s.heap.objs.size f cdv)) → sp vs H Q E →
      ∃ t, PSs (cxOf (L2.CX P w) P w K mg base N nm (defScope st) f cdv A outer s H E) (defBody st) t ∧ t { nx := fun _ H' => Q .non H', rt := Q } (L2.start N vs) H) : DefAt P w K mg base (L2.CX P w) (k + 1) nm ps sp := by
  obtain ⟨f, fd, F, a, b⟩ := F
  exact ⟨f, fd, F.okX S len (hbody f), a, F.kp, b⟩
/-! ### the error classes -/
/-- what the top has written of the four classes: S the base, V P N the three -/
structure Er (K : PySem.W.Frag) (mg : Str → Option Value) (S V P N : Addr) : Prop where
  g_SomeError : mg "SomeError" = some (.ref S)
  g_NoValue : mg "NoValue" = some (.ref V)
  g_NotPlain : mg "NotPlain" = some (.ref P)
  g_NoNote : mg "NoNote" = some (.ref N)
  x_NoValue : PySem.W.excIn K V [.type "ValueError", .type "Exception", .type "BaseException", .type "object"] "ValueError.__new__" = true
  k_NoValue : PySem.W.keepIn K (.ref V) = true
  b_NoValue : PySem.W.subIn K (.ref V) (.type "BaseException") = some true
  t_NoValue : PySem.W.typeIn K (.ref V) = some (.type "type")
  c_NoValue : ExcC K V
  x_NotPlain : PySem.W.excIn K P [.type "ValueError", .type "Exception", .type "BaseException", .type "object"] "ValueError.__new__" = true
  k_NotPlain : PySem.W.keepIn K (.ref P) = true
  b_NotPlain : PySem.W.subIn K (.ref P) (.type "BaseException") = some true
  t_NotPlain : PySem.W.typeIn K (.ref P) = some (.type "type")
  c_NotPlain : ExcC K P
  x_NoNote : PySem.W.excIn K N [.type "ValueError", .type "Exception", .type "BaseException", .type "object"] "ValueError.__new__" = true
  k_NoNote : PySem.W.keepIn K (.ref N) = true
  b_NoNote : PySem.W.subIn K (.ref N) (.type "BaseException") = some true
  t_NoNote : PySem.W.typeIn K (.ref N) = some (.type "type")
  c_NoNote : ExcC K N
  m_V : PySem.W.exmOne K (.ref V) (.ref S) = some true
  m_P : PySem.W.exmOne K (.ref P) (.ref S) = some true
  m_N : PySem.W.exmOne K (.ref N) (.ref S) = some true
  i_VV : PySem.W.kitOne K (.ref V) (.ref V) = some true
  i_VP : PySem.W.kitOne K (.ref V) (.ref P) = some false
  i_VN : PySem.W.kitOne K (.ref V) (.ref N) = some false
  i_V : PySem.W.kitOne K (.ref V) (.type "ValueError") = some true
  i_PV : PySem.W.kitOne K (.ref P) (.ref V) = some false
  i_PP : PySem.W.kitOne K (.ref P) (.ref P) = some true
  i_PN : PySem.W.kitOne K (.ref P) (.ref N) = some false
  i_P : PySem.W.kitOne K (.ref P) (.type "ValueError") = some true
  i_NV : PySem.W.kitOne K (.ref N) (.ref V) = some false
  i_NP : PySem.W.kitOne K (.ref N) (.ref P) = some false
  i_NN : PySem.W.kitOne K (.ref N) (.ref N) = some true
  i_N : PySem.W.kitOne K (.ref N) (.type "ValueError") = some true
/-- which error -/
inductive Ek | value | plain | note
def Ek.at (V P N : Addr) : Ek → Addr
  | .value => V | .plain => P | .note => N
def Ek.word : Ek → Str
  | .value => "no value" | .plain => "not plain" | .note => "no note"
def sp_word_of (V P N : Addr) : Addr → Addr → Sp := fun a D vs H Q _ => vs = [.ref a] ∧ ∃ k : Ek, D = k.at V P N ∧ ∀ H', Same H H' → Q (.str k.word) H'
section
variable {K : PySem.W.Frag} {H : Hp} {Q : VK} {σ : L2.St}
theorem x_isE {a D : Addr} {c : Addr} {b : Bool} (e : PySem.W.kitOne K (.ref D) (.ref c) = some b) (q : Q (.bl b) H) : rIsE K D a [.ref a, .ref c] H Q := ⟨.ref c, .ref c, b, rfl, fun _ h => h, e, q⟩
theorem x_isET {a D : Addr} {n : String} {b : Bool} (e : PySem.W.kitOne K (.ref D) (.type n) = some b) (q : Q (.bl b) H) : rIsE K D a [.ref a, .ty n] H Q := ⟨.ty n, .type n, b, rfl, fun _ h => h, e, q⟩
theorem x_callS {sp : Sp} {E : L2.St → XK} {t : TA} (h : t σ H fun vs H1 => sp vs H1 Q (E σ)) : tCallS sp E t σ H Q := h
theorem x_callP {a : Addr} {D : Addr} {sp : Addr → Addr → Sp} {t : TA} (h : t σ H fun vs H1 => sp a D vs H1 Q E0) : tCallP a (.ref D) none sp t σ H Q := by
  unfold tCallP
  refine (show t σ H (fun vs H1 => ∃ D', Value.ref D = .ref D' ∧ (none : Option Addr) = none ∧ sp a D' vs H1 Q E0) from ?_)
  have e : (fun (vs : List V) (H1 : Hp) => ∃ D', Value.ref D = .ref D' ∧ (none : Option Addr) = none ∧ sp a D' vs H1 Q E0) = fun vs H1 => sp a D vs H1 Q E0 := by
    funext vs H1
    exact propext ⟨fun ⟨D', h1, _, h2⟩ => by cases h1; exact h2, fun h => ⟨D, rfl, rfl, h⟩⟩
  rw [e]
  exact h
/-- sep.join of a list of texts -/
def rJoinK (K : PySem.W.Frag) : V → List V → Hp → VK → Prop := fun x xs H Q => ∃ a p, ∃ ys : List Str, x = .str a ∧ xs = [.ref p] ∧ (SqL K H p (ys.map V.str) ∨ SqT K H p (ys.map V.str)) ∧
  (ys.map (·.length)).sum + ys.length * a.length ≤ 16777216 ∧ Q (.str (Txt.join a ys)) H
theorem x_M1 {r : V → List V → Hp → VK → Prop} {to te : TE} (h : to σ H fun x H1 => (∃ a, x = .str a) ∧ te σ H1 fun y H2 => r x [y] H2 Q) : tM1 r to te σ H Q := h
end
theorem pe_joinK {X : Cx} {o e : Expr} {to te : TE} {apos pos : Pos} (K : PySem.W.Frag) (ho : PE X o to) (he : PE X e te) (hK : X.K = K := by rfl) (hs : starEach [e] X.env = [(false, eval e X.env)] := by rfl) (hbase : attributeBase o "join" X.env (eval o X.env) = eval o X.env := by rfl)
    (hline : (apos.endLine == pos.line) = true := by rfl) : PE X (.Call (.Attribute o "join" apos) [e] [] pos) (tM1 (rJoinK K) to te) := by
  subst hK
  exact pe_join ho he hs hbase hline
end XS

namespace XS
open PySem PySem.Spec PyProof.Rows L2
/-! ### the sums as functions -/
instance (a b : Str) : Decidable (slt a b) := by unfold slt; infer_instance
/-- a pair put into rising pairs -/
def ins (p : Pr) : List Pr → List Pr
  | [] => [p]
  | q :: r => if p.1 = q.1 then (q.1, q.2 + p.2) :: r else if slt p.1 q.1 then p :: q :: r else q :: ins p r
def sortP (ps : List Pr) : List Pr := ps.foldl (fun acc p => ins p acc) []
def nrm (ps : List Pr) : List Pr := (sortP ps).filter fun p => decide (p.2 ≠ 0)
theorem ins_mem (p : Pr) (x : Str) : ∀ r : List Pr, x ∈ (ins p r).map (·.1) ↔ x = p.1 ∨ x ∈ r.map (·.1)
  | [] => by simp [ins]
  | q :: r => by
    unfold ins
    split
    · rename_i h
      simp only [List.map_cons, List.mem_cons]
      constructor
      · rintro (h2 | h2)
        · exact .inr (.inl h2)
        · exact .inr (.inr h2)
      · rintro (h2 | h2 | h2)
        · exact .inl (h2.trans h)
        · exact .inl h2
        · exact .inr h2
    · split
      · simp
      · simp only [List.map_cons, List.mem_cons]
        rw [ins_mem p x r]
        constructor
        · rintro (h | h | h)
          · exact .inr (.inl h)
          · exact .inl h
          · exact .inr (.inr h)
        · rintro (h | h | h)
          · exact .inr (.inl h)
          · exact .inl h
          · exact .inr (.inr h)
theorem ins_rise (p : Pr) : ∀ r : List Pr, Rising (r.map (·.1)) → Rising ((ins p r).map (·.1))
  | [], _ => List.pairwise_singleton _ _
  | q :: r, h => by
    have h' := List.pairwise_cons.mp h
    unfold ins
    split
    · exact h
    · rename_i hne
      split
      · rename_i hlt
        refine List.pairwise_cons.mpr ⟨fun y hy => ?_, h⟩
        rcases List.mem_cons.mp hy with rfl | hy
        · exact hlt
        · exact slt_tr hlt (h'.1 y hy)
      · rename_i hge
        refine List.pairwise_cons.mpr ⟨fun y hy => ?_, ins_rise p r h'.2⟩
        rcases (ins_mem p y r).mp hy with rfl | hy
        · by_cases c : slt q.1 p.1
          · exact c
          · exact absurd (slt_tot hge c) hne
        · exact h'.1 y hy
theorem sortP_app (ps : List Pr) (p : Pr) : sortP (ps ++ [p]) = ins p (sortP ps) := by
  unfold sortP
  rw [List.foldl_append]
  rfl
/-- what is reckoned over the pairs -/
def dot (f : Str → Int) (ps : List Pr) : Int := (ps.map fun p => p.2 * f p.1).sum
theorem dot_nil (f : Str → Int) : dot f [] = 0 := rfl
theorem dot_cons (f : Str → Int) (p : Pr) (ps : List Pr) : dot f (p :: ps) = p.2 * f p.1 + dot f ps := by
  unfold dot
  rw [List.map_cons, List.sum_cons]
theorem dot_app (f : Str → Int) (ps qs : List Pr) : dot f (ps ++ qs) = dot f ps + dot f qs := by
  unfold dot
  rw [List.map_append, List.sum_append]
theorem ins_dot (f : Str → Int) (p : Pr) : ∀ r : List Pr, dot f (ins p r) = p.2 * f p.1 + dot f r
  | [] => dot_cons f p []
  | q :: r => by
    unfold ins
    split
    · rename_i h
      rw [dot_cons, dot_cons, h, Int.add_mul]
      show q.2 * f q.1 + p.2 * f q.1 + dot f r = _
      omega
    · split
      · rw [dot_cons]
      · rw [dot_cons, ins_dot f p r, dot_cons]
        omega
theorem sortP_dot (f : Str → Int) (ps : List Pr) : dot f (sortP ps) = dot f ps := by
  have key : ∀ (ps acc : List Pr), dot f (ps.foldl (fun acc p => ins p acc) acc) = dot f acc + dot f ps := by
    intro ps
    induction ps with
    | nil => intro acc; rw [dot_nil, Int.add_zero]; rfl
    | cons p ps ih =>
      intro acc
      rw [List.foldl_cons, ih, ins_dot, dot_cons]
      omega
  unfold sortP
  rw [key, dot_nil, Int.zero_add]
theorem filter_dot (f : Str → Int) (ps : List Pr) : dot f (ps.filter fun p => decide (p.2 ≠ 0)) = dot f ps := by
  induction ps with
  | nil => rfl
  | cons p ps ih =>
    rw [List.filter_cons]
    by_cases h : p.2 = 0
    · rw [if_neg (by simp [h]), ih, dot_cons, h, Int.zero_mul, Int.zero_add]
    · rw [if_pos (by simpa using h), dot_cons, dot_cons, ih]
theorem nrm_dot (f : Str → Int) (ps : List Pr) : dot f (nrm ps) = dot f ps := (filter_dot f _).trans (sortP_dot f ps)
theorem shr_dot (ps : List Pr) (x : Str) : shr ps x = dot (fun y => if y = x then 1 else 0) ps := by
  induction ps with
  | nil => rfl
  | cons p ps ih =>
    rw [shr_cons, dot_cons, ih]
    split
    · rw [Int.mul_one]
    · rw [Int.mul_zero]
theorem sortP_rise (ps : List Pr) : Rising ((sortP ps).map (·.1)) := by
  have key : ∀ (ps acc : List Pr), Rising (acc.map (·.1)) → Rising ((ps.foldl (fun acc p => ins p acc) acc).map (·.1)) := by
    intro ps
    induction ps with
    | nil => intro acc h; exact h
    | cons p ps ih => intro acc h; exact ih _ (ins_rise p acc h)
  exact key ps [] List.Pairwise.nil
theorem sortP_mem (ps : List Pr) (x : Str) : x ∈ (sortP ps).map (·.1) ↔ x ∈ ps.map (·.1) := by
  have key : ∀ (ps acc : List Pr), x ∈ (ps.foldl (fun acc p => ins p acc) acc).map (·.1) ↔ x ∈ acc.map (·.1) ∨ x ∈ ps.map (·.1) := by
    intro ps
    induction ps with
    | nil => intro acc; simp
    | cons p ps ih =>
      intro acc
      rw [List.foldl_cons, ih, ins_mem, List.map_cons, List.mem_cons]
      constructor
      · rintro ((h | h) | h)
        · exact .inr (.inl h)
        · exact .inl h
        · exact .inr (.inr h)
      · rintro (h | h | h)
        · exact .inl (.inr h)
        · exact .inl (.inl h)
        · exact .inr h
  unfold sortP
  rw [key]
  simp
theorem nrm_norm (ps : List Pr) : Norm (nrm ps) where
  rise := by
    have h : ((nrm ps).map (·.1)).Sublist ((sortP ps).map (·.1)) := (List.filter_sublist).map _
    exact List.Pairwise.sublist h (sortP_rise ps)
  nz := fun p hp => by simpa using (List.mem_filter.mp hp).2
theorem nrm_shr (ps : List Pr) (x : Str) : shr (nrm ps) x = shr ps x := by rw [shr_dot, nrm_dot, ← shr_dot]
theorem nrm_mem {ps : List Pr} {x : Str} (h : x ∈ (nrm ps).map (·.1)) : x ∈ ps.map (·.1) := by
  obtain ⟨p, hp, rfl⟩ := List.mem_map.mp h
  exact (sortP_mem ps _).mp (List.mem_map_of_mem (List.mem_filter.mp hp).1)
theorem norm_is {ps out : List Pr} (n : Norm out) (h : ∀ x, shr out x = shr ps x) : out = nrm ps := norm_ext n (nrm_norm ps) fun x => by rw [h, nrm_shr]
theorem ins_len (p : Pr) : ∀ r : List Pr, (ins p r).length ≤ r.length + 1
  | [] => Nat.le_refl _
  | q :: r => by
    unfold ins
    split
    · simp
    · split
      · simp
      · have := ins_len p r
        simp
        omega
theorem nrm_len (ps : List Pr) : (nrm ps).length ≤ ps.length := by
  have key : ∀ (ps acc : List Pr), (ps.foldl (fun acc p => ins p acc) acc).length ≤ acc.length + ps.length := by
    intro ps
    induction ps with
    | nil => intro acc; exact Nat.le_refl _
    | cons p ps ih =>
      intro acc
      have h1 := ih (ins p acc)
      have h2 := ins_len p acc
      rw [List.foldl_cons, List.length_cons]
      omega
  have h1 := key ps []
  have h2 := List.length_filter_le (fun p : Pr => decide (p.2 ≠ 0)) (sortP ps)
  unfold nrm
  unfold sortP at h2 ⊢
  simp at h1
  omega
/-- the functions of sums -/
def mkS (n : Int) (ps : List Pr) : Sm := (n, nrm ps)
def addS (s o : Sm) : Sm := mkS (s.1 + o.1) (s.2 ++ o.2)
def timS (c : Int) (s : Sm) : Sm := mkS (c * s.1) (s.2.map fun p => (p.1, c * p.2))
def woS (s : Sm) (x : Str) : Sm := mkS s.1 (s.2.filter fun p => decide (p.1 ≠ x))
def putS (s : Sm) (x : Str) (o : Sm) : Sm := addS (woS s x) (timS (shr s.2 x) o)
def valS (f : Str → Int) (s : Sm) : Int := s.1 + dot f s.2
theorem val_mk (f : Str → Int) (n : Int) (ps : List Pr) : valS f (mkS n ps) = n + dot f ps := by unfold valS mkS; rw [nrm_dot]
theorem val_add (f : Str → Int) (s o : Sm) : valS f (addS s o) = valS f s + valS f o := by
  unfold addS
  rw [val_mk, dot_app]
  unfold valS
  omega
theorem dot_map (f : Str → Int) (c : Int) (ps : List Pr) : dot f (ps.map fun p => (p.1, c * p.2)) = c * dot f ps := by
  induction ps with
  | nil => rw [List.map_nil, dot_nil, Int.mul_zero]
  | cons p ps ih => rw [List.map_cons, dot_cons, dot_cons, ih, Int.mul_add, Int.mul_assoc]
theorem val_tim (f : Str → Int) (c : Int) (s : Sm) : valS f (timS c s) = c * valS f s := by
  unfold timS
  rw [val_mk, dot_map]
  unfold valS
  rw [Int.mul_add]
theorem dot_wo (f : Str → Int) (ps : List Pr) (x : Str) : dot f (ps.filter fun p => decide (p.1 ≠ x)) = dot f ps - shr ps x * f x := by
  induction ps with
  | nil => rw [List.filter_nil, dot_nil, shr_nil, Int.zero_mul]; rfl
  | cons p ps ih =>
    rw [List.filter_cons, shr_cons, dot_cons]
    by_cases h : p.1 = x
    · rw [if_neg (by simp [h]), if_pos h, ih, h, Int.add_mul]
      omega
    · rw [if_pos (by simpa using h), if_neg h, dot_cons, ih, Int.zero_add]
      omega
theorem val_wo (f : Str → Int) (s : Sm) (x : Str) : valS f (woS s x) = valS f s - shr s.2 x * f x := by
  unfold woS
  rw [val_mk, dot_wo]
  unfold valS
  omega
theorem val_put (f : Str → Int) (s : Sm) (x : Str) (o : Sm) : valS f (putS s x o) = valS f s - shr s.2 x * f x + shr s.2 x * valS f o := by
  unfold putS
  rw [val_add, val_wo, val_tim]
theorem shr_wo (s : Sm) (x y : Str) : shr (woS s x).2 y = if y = x then 0 else shr s.2 y := by
  show shr (nrm _) y = _
  rw [nrm_shr, shr_dot, dot_wo, ← shr_dot]
  by_cases h : y = x
  · subst h
    rw [if_pos rfl, if_pos rfl, Int.mul_one, Int.sub_self]
  · rw [if_neg h, if_neg (fun e => h e.symm), Int.mul_zero, Int.sub_zero]
theorem shr_add (s o : Sm) (y : Str) : shr (addS s o).2 y = shr s.2 y + shr o.2 y := by
  show shr (nrm _) y = _
  rw [nrm_shr, shr_app]
theorem shr_tim (c : Int) (s : Sm) (y : Str) : shr (timS c s).2 y = c * shr s.2 y := by
  show shr (nrm _) y = _
  rw [nrm_shr, shr_dot, dot_map, ← shr_dot]
theorem shr_put (s : Sm) (x : Str) (o : Sm) (y : Str) : shr (putS s x o).2 y = (if y = x then 0 else shr s.2 y) + shr s.2 x * shr o.2 y := by
  unfold putS
  rw [shr_add, shr_wo, shr_tim]
/-! ### numbers that may be multiplied -/
def Sml (i : Int) : Prop := i.natAbs.log2 < 400000
theorem sml_of {i : Int} {n : Nat} (h : i.natAbs < 2 ^ n) (hn : n ≤ 400000) : Sml i := by
  unfold Sml
  by_cases h0 : i.natAbs = 0
  · rw [h0]; decide
  · have := (Nat.log2_lt h0).mpr h
    omega
theorem ten_two : (10 : Nat) ^ 60 < 2 ^ 200 := by decide
theorem sml_big (c : Int) : Sml (bigBy c) := sml_of (Nat.lt_trans (bigBy_b c) ten_two) (by decide)
theorem sml_small {i : Int} (h : i.natAbs < 2 ^ 64) : Sml i := sml_of h (by decide)
theorem mul_ok {i j : Int} (h1 : Sml i) (h2 : Sml j) : CMulW i j := by
  unfold Sml at h1 h2
  unfold CMulW
  omega
/-- the numbers of a sum -/
def SmlS (s : Sm) : Prop := Sml s.1 ∧ ∀ p ∈ s.2, Sml p.2
/-! ### promises -/
def sp_mk (K : PySem.W.Frag) : Sp := fun vs H Q _ => ∃ (n : Int) (v : V) (ps : List Pr), vs = [.int n, v] ∧ Dp K H v (.list (ps.map prT)) ∧ ps.length < 64 ∧
  ∀ t H', Same H H' → Dp K H' (.ref t) (sumD (mkS n ps)) → Q (.ref t) H'
theorem mk_imp {K : PySem.W.Frag} (vs : List V) (H : Hp) (Q : VK) (E : XK) (h : sp_mk K vs H Q E) : sp_made K vs H Q E := by
  obtain ⟨n, v, ps, e, hd, hl, q⟩ := h
  refine ⟨n, v, ps, e, hd, hl, fun t H' out e n s sub d => q t H' e ?_⟩
  rw [norm_is n s] at d
  exact d
def sp_added (K : PySem.W.Frag) : Sp := fun vs H Q _ => ∃ (v u : V) (s o : Sm), vs = [v, u] ∧ Dp K H v (sumD s) ∧ Dp K H u (sumD o) ∧ s.2.length + o.2.length < 64 ∧
  ∀ t H', Same H H' → Dp K H' (.ref t) (sumD (addS s o)) → Q (.ref t) H'
def sp_times (K : PySem.W.Frag) : Sp := fun vs H Q _ => ∃ (c : Int) (v : V) (s : Sm), vs = [.int c, v] ∧ Dp K H v (sumD s) ∧ s.2.length < 64 ∧ Sml c ∧ SmlS s ∧
  ∀ t H', Same H H' → Dp K H' (.ref t) (sumD (timS c s)) → Q (.ref t) H'
def sp_without (K : PySem.W.Frag) : Sp := fun vs H Q _ => ∃ (v : V) (s : Sm) (x : Str), vs = [v, .str x] ∧ Dp K H v (sumD s) ∧ s.2.length < 64 ∧
  ∀ t H', Same H H' → Dp K H' (.ref t) (sumD (woS s x)) → Q (.ref t) H'
def sp_put_in (K : PySem.W.Frag) : Sp := fun vs H Q _ => ∃ (v u : V) (s o : Sm) (x : Str), vs = [v, .str x, u] ∧ Dp K H v (sumD s) ∧ Dp K H u (sumD o) ∧ (s.2.map (·.1)).Nodup ∧ s.2.length + o.2.length < 64 ∧ SmlS s ∧ SmlS o ∧
  ∀ t H', Same H H' → Dp K H' (.ref t) (sumD (putS s x o)) → Q (.ref t) H'
/-- values told by a dict -/
def look (m : List Pr) (x : Str) : Int := (getP m x).getD 0
theorem getP_look {m : List Pr} {x : Str} (h : x ∈ m.map (·.1)) : getP m x = some (look m x) := by
  have h2 := getP_some (m := m) (x := x)
  rw [decide_eq_true h] at h2
  unfold look
  cases q1 : getP m x with
  | none => rw [q1] at h2; cases h2
  | some k => rfl
theorem look_sml {m : List Pr} {x : Str} (sm : ∀ q ∈ m, Sml q.2) (hv : getP m x = some (look m x)) : Sml (look m x) := by
  unfold getP at hv
  cases q1 : m.find? (fun q => decide (q.1 = x)) with
  | none => rw [q1] at hv; cases hv
  | some k =>
    rw [q1] at hv
    have hv' := Option.some.inj hv
    rw [← hv']
    exact sm k (List.mem_of_find?_eq_some q1)
def sp_value (K : PySem.W.Frag) (NV : Addr) : Sp := fun vs H Q E => ∃ (v : V) (d : Addr) (s : Sm) (m : List Pr), vs = [v, .ref d] ∧ Dp K H v (sumD s) ∧ H d = some (.dK (dOf m)) ∧ SmlS s ∧ (∀ q ∈ m, Sml q.2) ∧ (∀ p ∈ s.2, p.1.length ≤ 1000) ∧
  ((∀ p ∈ s.2, p.1 ∈ m.map (·.1)) → Q (.int (valS (look m) s)) H) ∧ ((∃ p ∈ s.2, p.1 ∉ m.map (·.1)) → E (.ref NV) none H)
/-! ### the sums that the law draws -/
def srt (xs : List Str) : List Str := (sortP (xs.map fun x => (x, 0))).map (·.1)
theorem srt_rise (xs : List Str) : Rising (srt xs) := sortP_rise _
theorem srt_mem (xs : List Str) (x : Str) : x ∈ srt xs ↔ x ∈ xs := by
  unfold srt
  rw [sortP_mem, List.map_map]
  show x ∈ xs.map id ↔ _
  rw [List.map_id]
theorem srt_is {xs ys : List Str} (nd : xs.Nodup) (hp : ys.Perm xs) (hs : sortedS ys = true) : ys = srt xs :=
  rising_ext (rising_of (hp.nodup_iff.mpr nd) hs) (srt_rise xs) fun x => by rw [hp.mem_iff, srt_mem]
def byOf (wd m : Int) : Int := m / 7 % (2 * wd + 1) - wd
theorem byOf_b {wd : Int} (h : 0 ≤ wd) (m : Int) : -wd ≤ byOf wd m ∧ byOf wd m ≤ wd := by
  have h1 : 0 ≤ m / 7 % (2 * wd + 1) := Int.emod_nonneg _ (by omega)
  have h2 : m / 7 % (2 * wd + 1) < 2 * wd + 1 := Int.emod_lt_of_pos _ (by omega)
  unfold byOf
  omega
def sumTurn (wd : Int) (s : Int × List Pr) (x : Str) : Int × List Pr := (mixN s.1, if byOf wd (mixN s.1) = 0 then s.2 else s.2 ++ [(x, byOf wd (mixN s.1))])
def sumRun (wd c : Int) (ys : List Str) : Int × List Pr := ys.foldl (sumTurn wd) (c, [])
theorem sumRun_more (wd c : Int) (ys : List Str) (x : Str) : sumRun wd c (ys ++ [x]) = sumTurn wd (sumRun wd c ys) x := by
  unfold sumRun
  rw [List.foldl_append]
  rfl
def sumBy (c : Int) (names : List Str) (wd : Int) : Sm := (mixN (sumRun wd c (srt names)).1 / 7 % 19 - 9, (sumRun wd c (srt names)).2)
/-- the parts so far: some of the names, in their order -/
theorem sumRun_ok (wd c : Int) (hw : 0 ≤ wd) : ∀ ys : List Str, ((sumRun wd c ys).2.map (·.1)).Sublist ys ∧ (∀ p ∈ (sumRun wd c ys).2, p.2 ≠ 0 ∧ p.2.natAbs ≤ wd.toNat) := by
  intro ys
  have key : ∀ n, ∀ ys : List Str, ys.length = n → ((sumRun wd c ys).2.map (·.1)).Sublist ys ∧ (∀ p ∈ (sumRun wd c ys).2, p.2 ≠ 0 ∧ p.2.natAbs ≤ wd.toNat) := by
    intro n
    induction n with
    | zero =>
      intro ys h
      cases ys with
      | nil => exact ⟨List.Sublist.slnil, fun p hp => by cases hp⟩
      | cons y ys => simp at h
    | succ n ih =>
      intro ys h
      have hne : ys ≠ [] := fun e => by rw [e] at h; simp at h
      have e := List.dropLast_concat_getLast hne
      generalize ys.dropLast = zs at e
      generalize ys.getLast hne = x at e
      subst e
      have ih' := ih zs (by simpa using h)
      rw [sumRun_more]
      have hb := byOf_b hw (mixN (sumRun wd c zs).1)
      unfold sumTurn
      by_cases h0 : byOf wd (mixN (sumRun wd c zs).1) = 0
      · simp only [if_pos h0]
        exact ⟨ih'.1.trans (List.sublist_append_left _ _), ih'.2⟩
      · simp only [if_neg h0]
        refine ⟨?_, fun p hp => ?_⟩
        · rw [List.map_append]
          exact ih'.1.append (List.Sublist.refl _)
        · rcases List.mem_append.mp hp with hp | hp
          · exact ih'.2 p hp
          · simp at hp
            subst hp
            exact ⟨h0, by show (byOf wd _).natAbs ≤ _; omega⟩
  exact key _ ys rfl
theorem sumBy_norm {c wd : Int} {names : List Str} (hw : 0 ≤ wd) : Norm (sumBy c names wd).2 where
  rise := List.Pairwise.sublist (sumRun_ok wd c hw _).1 (srt_rise names)
  nz := fun p hp => ((sumRun_ok wd c hw _).2 p hp).1
theorem sumBy_mem {c wd : Int} {names : List Str} (hw : 0 ≤ wd) {p : Pr} (hp : p ∈ (sumBy c names wd).2) : p.1 ∈ names :=
  (srt_mem names _).mp ((sumRun_ok wd c hw _).1.subset (List.mem_map_of_mem hp))
theorem sumBy_by {c wd : Int} {names : List Str} (hw : 0 ≤ wd) {p : Pr} (hp : p ∈ (sumBy c names wd).2) : p.2.natAbs ≤ wd.toNat := ((sumRun_ok wd c hw _).2 p hp).2
theorem srt_len (xs : List Str) : (srt xs).length ≤ xs.length := by
  unfold srt
  rw [List.length_map]
  have key : ∀ (ps acc : List Pr), (ps.foldl (fun acc p => ins p acc) acc).length ≤ acc.length + ps.length := by
    intro ps
    induction ps with
    | nil => intro acc; exact Nat.le_refl _
    | cons p ps ih =>
      intro acc
      have h1 := ih (ins p acc)
      have h2 := ins_len p acc
      rw [List.foldl_cons, List.length_cons]
      omega
  have := key (xs.map fun x => (x, 0)) []
  rw [List.length_map] at this
  unfold sortP
  simpa using this
theorem sumBy_len {c wd : Int} {names : List Str} (hw : 0 ≤ wd) : (sumBy c names wd).2.length ≤ names.length := by
  have h1 := (sumRun_ok wd c hw (srt names)).1.length_le
  rw [List.length_map] at h1
  exact Nat.le_trans h1 (srt_len names)
theorem sumBy_num (c wd : Int) (names : List Str) : (sumBy c names wd).1.natAbs ≤ 9 := by
  have h1 : 0 ≤ mixN (sumRun wd c (srt names)).1 / 7 % 19 := Int.emod_nonneg _ (by decide)
  have h2 : mixN (sumRun wd c (srt names)).1 / 7 % 19 < 19 := Int.emod_lt_of_pos _ (by decide)
  show (mixN (sumRun wd c (srt names)).1 / 7 % 19 - 9).natAbs ≤ 9
  omega
theorem sumBy_sml {c wd : Int} {names : List Str} (hw : 0 ≤ wd) (hw2 : wd ≤ 1000) : SmlS (sumBy c names wd) := by
  refine ⟨sml_small ?_, fun p hp => sml_small ?_⟩
  · have := sumBy_num c wd names
    exact Nat.lt_of_le_of_lt this (by decide)
  · have := sumBy_by hw hp
    exact Nat.lt_of_le_of_lt this (by omega)
theorem inV_str (x : Str) (xs : List Str) : inV (.str x) (xs.map V.str) = decide (x ∈ xs) := by
  unfold inV
  rw [List.any_map, Bool.eq_iff_iff]
  simp only [List.any_eq_true, decide_eq_true_eq, Function.comp, eqV, beq_iff_eq]
  constructor
  · rintro ⟨y, hy, rfl⟩
    exact hy
  · intro h
    exact ⟨x, h, rfl⟩
theorem flat_strs (xs : List Str) : (xs.map V.str).all flatV = true := by
  rw [List.all_map]
  simp [flatV]
def sp_sum_by (K : PySem.W.Frag) : Sp := fun vs H Q _ => ∃ (c wd : Int) (nl : Addr) (names : List Str), vs = [.int c, .ref nl, .int wd] ∧ SqL K H nl (names.map V.str) ∧ names.Nodup ∧ names.length ≤ 8 ∧ 0 ≤ wd ∧ wd ≤ 1000 ∧
  ∀ t H', Same H H' → Dp K H' (.ref t) (sumD (sumBy c names wd)) → Q (.ref t) H'
def sp_lvalue (K : PySem.W.Frag) : Sp := fun vs H Q _ => ∃ (v : V) (d : Addr) (s : Sm) (m : List Pr), vs = [v, .ref d] ∧ Dp K H v (sumD s) ∧ H d = some (.dK (dOf m)) ∧ SmlS s ∧ (∀ q ∈ m, Sml q.2) ∧ (∀ p ∈ s.2, p.1 ∈ m.map (·.1)) ∧ Q (.int (valS (look m) s)) H
def sp_sum_is (K : PySem.W.Frag) : Sp := fun vs H Q _ => ∃ (v : V) (nl : Addr) (s : Sm) (names : List Str), vs = [v, .ref nl] ∧ Dp K H v (sumD s) ∧ SqL K H nl (names.map V.str) ∧ Norm s.2 ∧ (∀ p ∈ s.2, p.1 ∈ names ∧ p.1.cps.toList ≠ []) ∧ Q (.bl true) H
theorem noval_len (x : Str) : ((Str.empty ++ ("no value is known for " : Str)) ++ x).length = 22 + x.length := by
  have e1 : (Str.empty ++ ("no value is known for " : Str)).length = 22 := by decide +kernel
  have e2 : ((Str.empty ++ ("no value is known for " : Str)) ++ x).length = (Str.empty ++ ("no value is known for " : Str)).length + x.length := by
    show ((Str.empty ++ ("no value is known for " : Str)).cps ++ x.cps).size = _
    rw [Array.size_append]
    rfl
  rw [e2, e1]
/-- the name before place i, nothing ahead of all -/
def lastN (ps : List Pr) : Nat → Str
  | 0 => ""
  | i + 1 => (ps.getD i ("", 0)).1
theorem lastN_next {ps : List Pr} {i : Nat} {p : Pr} (h : ps[i]? = some p) : lastN ps (i + 1) = p.1 := by
  show (ps.getD i ("", 0)).1 = p.1
  rw [List.getD_eq_getElem?_getD, h]
  rfl
theorem lastN_lt {ps : List Pr} {i : Nat} {p : Pr} (no : Norm ps) (h : ps[i]? = some p) (h0 : p.1.cps.toList ≠ []) : (lastN ps i).cps.toList < p.1.cps.toList := by
  cases i with
  | zero =>
    show ([] : List Nat) < _
    cases e : p.1.cps.toList with
    | nil => exact absurd e h0
    | cons x xs => exact List.Lex.nil
  | succ i =>
    have hlt : i + 1 < ps.length := (List.getElem?_eq_some_iff.mp h).1
    have hp : ps[i]? = some ps[i] := List.getElem?_eq_getElem (by omega)
    rw [lastN_next hp]
    have r := List.pairwise_iff_getElem.mp no.rise i (i + 1) (by simpa using (by omega : i < ps.length)) (by simpa using hlt) (by omega)
    rw [List.getElem_map, List.getElem_map] at r
    have e2 : ps[i + 1] = p := (List.getElem?_eq_some_iff.mp h).2
    rw [e2] at r
    exact slt_lt.mp r
/-- refused of k02 -/
def sp_refused2 (K : PySem.W.Frag) : Sp := fun vs H Q _ => ∃ (v : V) (d : Addr) (s : Sm) (m : List Pr), vs = [v, .ref d] ∧ Dp K H v (sumD s) ∧ H d = some (.dK (dOf m)) ∧ SmlS s ∧ (∀ q ∈ m, Sml q.2) ∧ (∀ p ∈ s.2, p.1.length ≤ 1000) ∧
  ∀ H', Same H H' → Q (.str (if s.2.all fun p => decide (p.1 ∈ m.map (·.1)) then "" else "no value")) H'
end XS

namespace XS
open PySem PySem.Spec PyProof.Rows L2
/-! ### pieces of lists -/
theorem cut_take (xs : List V) (k : Nat) : cutV xs none (some (k : Int)) = xs.take k := by
  unfold cutV
  rw [HT.sIx_none, HT.sIx_nat, List.drop_zero, Nat.sub_zero]
  rcases Nat.le_total k xs.length with h | h
  · rw [Nat.min_eq_left h]
  · rw [Nat.min_eq_right h, List.take_length, List.take_of_length_le h]
theorem cut_drop (xs : List V) (k : Nat) : cutV xs (some (k : Int)) none = xs.drop k := by
  unfold cutV
  rw [HT.sIx_none, HT.sIx_nat]
  rcases Nat.le_total k xs.length with h | h
  · rw [Nat.min_eq_left h, List.take_of_length_le (by rw [List.length_drop]; exact Nat.le_refl _)]
  · rw [Nat.min_eq_right h, List.drop_eq_nil_of_le h, List.drop_eq_nil_of_le (Nat.le_refl _)]
    simp
/-! ### values -/
theorem putP_new {m : List Pr} {x : Str} {v : Int} (h : x ∉ m.map (·.1)) : putP m x v = m ++ [(x, v)] := by
  unfold putP
  rw [getP_any, decide_eq_false h, if_neg Bool.false_ne_true]
def dropP (m : List Pr) (x : Str) : List Pr := m.filter fun p => decide (p.1 ≠ x)
theorem dOf_drop (m : List Pr) (x : Str) : dropK (dOf m) (Sum.inr x : Key) = dOf (dropP m x) := by
  unfold dropK dOf dropP
  rw [List.filter_map]
  congr 1
  refine List.filter_congr fun p _ => ?_
  show decide ((Sum.inr p.1 : Key) ≠ Sum.inr x) = decide (p.1 ≠ x)
  rw [decide_not, decide_not, inr_dec]
theorem dropP_names (m : List Pr) (x y : Str) : y ∈ (dropP m x).map (·.1) ↔ y ∈ m.map (·.1) ∧ y ≠ x := by
  unfold dropP
  simp only [List.mem_map, List.mem_filter, decide_eq_true_eq]
  constructor
  · rintro ⟨p, ⟨h1, h2⟩, rfl⟩
    exact ⟨⟨p, h1, rfl⟩, h2⟩
  · rintro ⟨⟨p, h1, rfl⟩, h2⟩
    exact ⟨p, ⟨h1, h2⟩, rfl⟩
theorem dropP_nd {m : List Pr} (x : Str) (nd : (m.map (·.1)).Nodup) : ((dropP m x).map (·.1)).Nodup := List.Nodup.sublist ((List.filter_sublist).map _) nd
theorem dOf_self {m : List Pr} (nd : (m.map (·.1)).Nodup) : ∀ p ∈ dOf m, valV (dOf m) p.1 = some p.2 ∧ flatB p.2 = true := by
  intro q hq
  obtain ⟨p, hp, rfl⟩ := List.mem_map.mp hq
  refine ⟨?_, rfl⟩
  show valV (dOf m) (Sum.inr p.1 : Key) = some (V.int p.2)
  rw [dOf_val]
  have : getP m p.1 = some p.2 := by
    clear hq
    induction m with
    | nil => cases hp
    | cons q m ih =>
      have nd' := List.nodup_cons.mp (show (q.1 :: m.map (·.1)).Nodup from nd)
      unfold getP at ih ⊢
      rw [List.find?_cons]
      rcases List.mem_cons.mp hp with rfl | hp
      · rw [decide_eq_true rfl]; rfl
      · rw [decide_eq_false (fun e => nd'.1 (by rw [e]; exact List.mem_map_of_mem hp))]
        exact ih nd'.2 hp
  rw [this]
  rfl
/-! ### bounds -/
def Bnd (n k : Nat) (s : Sm) : Prop := s.1.natAbs ≤ n ∧ ∀ x, (shr s.2 x).natAbs ≤ k
theorem Bnd.sml {n k : Nat} {s : Sm} (b : Bnd n k s) (nd : (s.2.map (·.1)).Nodup) (hn : n < 2 ^ 250) (hk : k < 2 ^ 250) : SmlS s :=
  ⟨sml_of (Nat.lt_of_le_of_lt b.1 hn) (by decide), fun p hp => sml_of (n := 250) (Nat.lt_of_le_of_lt (by rw [← shr_at nd hp]; exact b.2 p.1) hk) (by decide)⟩
theorem Bnd.mono {n k n' k' : Nat} {s : Sm} (b : Bnd n k s) (h1 : n ≤ n') (h2 : k ≤ k') : Bnd n' k' s := ⟨Nat.le_trans b.1 h1, fun x => Nat.le_trans (b.2 x) h2⟩
theorem Bnd.add {n k n' k' : Nat} {s o : Sm} (b : Bnd n k s) (c : Bnd n' k' o) : Bnd (n + n') (k + k') (addS s o) := by
  refine ⟨?_, fun x => ?_⟩
  · have h1 := b.1; have h2 := c.1
    show (s.1 + o.1).natAbs ≤ _
    omega
  · rw [shr_add]
    have h1 := b.2 x; have h2 := c.2 x
    omega
theorem Bnd.tim {n k m : Nat} {c : Int} {s : Sm} (b : Bnd n k s) (h : c.natAbs ≤ m) : Bnd (m * n) (m * k) (timS c s) := by
  refine ⟨?_, fun x => ?_⟩
  · show (c * s.1).natAbs ≤ _
    rw [Int.natAbs_mul]
    exact Nat.mul_le_mul h b.1
  · rw [shr_tim, Int.natAbs_mul]
    exact Nat.mul_le_mul h (b.2 x)
theorem Bnd.wo {n k : Nat} {s : Sm} (b : Bnd n k s) (x : Str) : Bnd n k (woS s x) := by
  refine ⟨b.1, fun y => ?_⟩
  rw [shr_wo]
  split
  · exact Nat.zero_le _
  · exact b.2 y
theorem Bnd.put {n k n' k' : Nat} {s o : Sm} (b : Bnd n k s) (x : Str) (c : Bnd n' k' o) : Bnd (n + k * n') (k + k * k') (putS s x o) := (b.wo x).add (c.tim (b.2 x))
theorem bnd_by {c wd : Int} {names : List Str} (hw : 0 ≤ wd) : Bnd 9 wd.toNat (sumBy c names wd) := by
  refine ⟨sumBy_num c wd names, fun x => ?_⟩
  by_cases h : x ∈ (sumBy c names wd).2.map (·.1)
  · obtain ⟨p, hp, rfl⟩ := List.mem_map.mp h
    rw [shr_at (sumBy_norm hw).rise.nodup hp]
    exact sumBy_by hw hp
  · rw [shr_out h]
    exact Nat.zero_le _
/-! ### names -/
theorem add_mem {s o : Sm} {x : Str} (h : x ∈ (addS s o).2.map (·.1)) : x ∈ s.2.map (·.1) ∨ x ∈ o.2.map (·.1) := by
  have := nrm_mem h
  rw [List.map_append, List.mem_append] at this
  exact this
theorem tim_mem {c : Int} {s : Sm} {x : Str} (h : x ∈ (timS c s).2.map (·.1)) : x ∈ s.2.map (·.1) := by
  have := nrm_mem h
  rw [List.map_map] at this
  exact this
theorem wo_mem {s : Sm} {x y : Str} (h : y ∈ (woS s x).2.map (·.1)) : y ∈ s.2.map (·.1) ∧ y ≠ x := by
  have := nrm_mem h
  obtain ⟨p, hp, rfl⟩ := List.mem_map.mp this
  have h2 := List.mem_filter.mp hp
  exact ⟨List.mem_map_of_mem h2.1, by simpa using h2.2⟩
theorem put_mem {s o : Sm} {x y : Str} (h : y ∈ (putS s x o).2.map (·.1)) : y ∈ s.2.map (·.1) ∨ y ∈ o.2.map (·.1) := by
  rcases add_mem h with h | h
  · exact .inl (wo_mem h).1
  · exact .inr (tim_mem h)
/-- a sum, a number -/
def rowD (r : Sm × Int) : PyData := .tuple [sumD r.1, .int r.2]
theorem im_row (r : Sm × Int) : Im (rowD r) := im_tup2 (im_sum _) (.int _)
theorem Dp.row {K : PySem.W.Frag} {H : Hp} {v : V} {r : Sm × Int} (h : Dp K H v (rowD r)) : ∃ a u, v = .ref a ∧ SqT K H a [u, .int r.2] ∧ Dp K H u (sumD r.1) := by
  cases h with
  | tup hs ha =>
    cases ha with
    | cons h1 h2 =>
      cases h2 with
      | cons h3 h4 =>
        cases h3
        cases h4
        exact ⟨_, _, rfl, hs, h1⟩
end XS
namespace XS
open PySem PySem.Spec PyProof.Rows L2
theorem cut_take3 (xs : List V) : cutV xs none (some 3) = xs.take 3 := cut_take xs 3
theorem cut_drop1 (xs : List V) : cutV xs (some 1) none = xs.drop 1 := cut_drop xs 1
theorem getAt {m : List Pr} {x : Str} {H : Hp} {d : Addr} (hd : H d = some (.dK (dOf m))) (h : x ∈ m.map (·.1)) : DGet H d (.str x) (some (.int (look m x))) := by
  have g := DGet.k (k := Sum.inr x) hd
  rw [dOf_val, getP_look h] at g
  exact g
theorem getAny {m : List Pr} {x : Str} {H : Hp} {d : Addr} (hd : H d = some (.dK (dOf m))) : DGet H d (.str x) ((getP m x).map V.int) := by
  have g := DGet.k (k := Sum.inr x) hd
  rw [dOf_val] at g
  exact g
end XS
namespace XS
open PySem PySem.Spec PyProof.Rows L2
theorem dot_b {f : Str → Int} {k B : Nat} : ∀ {ps : List Pr}, (∀ p ∈ ps, p.2.natAbs ≤ k) → (∀ x, (f x).natAbs ≤ B) → (dot f ps).natAbs ≤ ps.length * (k * B)
  | [], _, _ => by rw [dot_nil]; exact Nat.zero_le _
  | p :: ps, h, hf => by
    rw [dot_cons, List.length_cons, Nat.add_mul, Nat.one_mul]
    have h1 := dot_b (ps := ps) (fun q hq => h q (List.mem_cons_of_mem _ hq)) hf
    have h2 : (p.2 * f p.1).natAbs ≤ k * B := by
      rw [Int.natAbs_mul]
      exact Nat.mul_le_mul (h p (List.mem_cons_self ..)) (hf p.1)
    have h3 := Int.natAbs_add_le (p.2 * f p.1) (dot f ps)
    omega
theorem look_b {m : List Pr} {B : Nat} (h : ∀ q ∈ m, q.2.natAbs ≤ B) (x : Str) : (look m x).natAbs ≤ B := by
  unfold look getP
  cases e : m.find? (fun p => decide (p.1 = x)) with
  | none => exact Nat.zero_le _
  | some p => exact h p (List.mem_of_find?_eq_some e)
theorem Bnd.prt {n k : Nat} {s : Sm} (b : Bnd n k s) (nd : (s.2.map (·.1)).Nodup) : ∀ p ∈ s.2, p.2.natAbs ≤ k := fun p hp => by rw [← shr_at nd hp]; exact b.2 p.1
theorem Bnd.val {n k B : Nat} {s : Sm} {m : List Pr} (b : Bnd n k s) (nd : (s.2.map (·.1)).Nodup) (h : ∀ q ∈ m, q.2.natAbs ≤ B) : (valS (look m) s).natAbs ≤ n + s.2.length * (k * B) := by
  have h1 := dot_b (f := look m) (b.prt nd) (look_b h)
  have h2 := b.1
  unfold valS
  omega
theorem sml_of' {i : Int} {n : Nat} (h : i.natAbs ≤ n) (hn : n < 2 ^ 250) : Sml i := sml_of (Nat.lt_of_le_of_lt h hn) (by decide)
theorem sml_all {m : List Pr} (h : ∀ q ∈ m, q.2.natAbs ≤ 10 ^ 60) : ∀ q ∈ m, Sml q.2 := fun q hq => sml_of' (h q hq) (by decide)
end XS
namespace XS
open PySem PySem.Spec PyProof.Rows L2
theorem none_of {H H1 : Hp} {p : Addr} (e : Same H H1) (h : H1 p = none) : H p = none := by
  cases q : H p with
  | none => rfl
  | some u => rw [e _ _ q] at h; cases h
theorem x_dpop1 {td ty : TE} {σ : L2.St} {H : Hp} {Q : VK} (h : td σ H fun x H1 => ∃ a, x = .ref a ∧ IsD H1 a ∧ ty σ H1 fun y H2 => ∃ kvs k v, H2 a = some (.dK kvs) ∧ y = kV k ∧ valV kvs k = some v ∧ Q v (upd H2 a (.dK (dropK kvs k)))) : tDPop1 td ty σ H Q := h
theorem Dp.mkRow {K : PySem.W.Frag} {H : Hp} {a : Addr} {u : V} {r : Sm × Int} (h1 : SqT K H a [u, .int r.2]) (h2 : Dp K H u (sumD r.1)) : Dp K H (.ref a) (rowD r) := .tup h1 (.cons h2 (.cons (.int _) .nil))
theorem isD_of {H : Hp} {a : Addr} {m : List (Key × V)} (h : H a = some (.dK m)) : IsD H a := .inl ⟨m, .inl h⟩
end XS

namespace XS
open PySem PySem.Spec PyProof.Rows L2
/-! ### what the top says of an error class -/
structure EcF (K : PySem.W.Frag) (D : Addr) : Prop where
  x : PySem.W.excIn K D [.type "ValueError", .type "Exception", .type "BaseException", .type "object"] "ValueError.__new__" = true
  k : PySem.W.keepIn K (.ref D) = true
  b : PySem.W.subIn K (.ref D) (.type "BaseException") = some true
  t : PySem.W.typeIn K (.ref D) = some (.type "type")
  d : PySem.W.hasDictIn K D = true
  ga : PySem.W.findIn K (.ref D) "__getattribute__" = some (some (.builtin "BaseException.__getattribute__"))
  gt : PySem.W.findIn K (.ref D) "__getattr__" = some none
  cl : PySem.W.findIn K (.ref D) "__class__" = some (some (.builtin "object.__class__"))
  mo : PySem.W.mroIn K D (.type "object") = some true
  ve : PySem.W.subIn K (.ref D) (.type "ValueError") = some true
  me : PySem.W.subIn K (.ref D) (.ref D) = some true
theorem EcF.c {K : PySem.W.Frag} {D : Addr} (e : EcF K D) (h1 : PySem.W.specialIn K (.builtin "object.__class__") "__get__" = some (some (.builtin "getset_descriptor.__get__"))) (h2 : PySem.W.takesIn K (.builtin "object.__class__") = some true) : ExcC K D :=
  ⟨e.ga, e.gt, e.b, e.d, e.cl, h1, h2, e.mo⟩
theorem kit_ref {K : PySem.W.Frag} {t : Value} {C : Addr} {b : Bool} (hd : PySem.W.hasDictIn K C = true) (ht : PySem.W.typeIn K (.ref C) = some (.type "type")) (h : PySem.W.subIn K t (.ref C) = some b) (hn : b = true ∨ (t == Value.ref C) = false) : PySem.W.kitOne K t (.ref C) = some b := by
  have hc : (PySem.W.clsIn K C).isSome = true := by
    unfold PySem.W.hasDictIn at hd
    cases e : PySem.W.clsIn K C with
    | none => rw [e] at hd; cases hd
    | some _ => rfl
  have e2 : ((PySem.W.clsIn K C).isSome && PySem.W.typeIn K (.ref C) == some (.type "type")) = true := by rw [hc, ht] <;> rfl
  have e3 : PySem.W.kitCls K t (.ref C) = some b := by
    show (if ((PySem.W.clsIn K C).isSome && PySem.W.typeIn K (.ref C) == some (.type "type")) = true then PySem.W.subIn K t (.ref C) else none) = some b
    rw [if_pos e2]
    exact h
  unfold PySem.W.kitOne
  rw [e3]
  split
  · rename_i e
    rcases hn with rfl | hn
    · rfl
    · rw [hn] at e; cases e
  · rfl
theorem kit_ve {K : PySem.W.Frag} {D : Addr} (h : PySem.W.subIn K (.ref D) (.type "ValueError") = some true) : PySem.W.kitOne K (.ref D) (.type "ValueError") = some true := by
  unfold PySem.W.kitOne
  have e : PySem.W.kitCls K (.ref D) (.type "ValueError") = some true := by
    show (if PySem.W.kitMeta "ValueError" = true then PySem.W.subIn K (.ref D) (.type "ValueError") else none) = some true
    rw [if_pos (by decide +kernel)]
    exact h
  rw [e]
  split <;> rfl
theorem er_mk {K : PySem.W.Frag} {mg : Str → Option Value} {S V P N : Addr} (gS : mg "SomeError" = some (.ref S)) (gV : mg "NoValue" = some (.ref V)) (gP : mg "NotPlain" = some (.ref P)) (gN : mg "NoNote" = some (.ref N))
    (s1 : PySem.W.specialIn K (.builtin "object.__class__") "__get__" = some (some (.builtin "getset_descriptor.__get__"))) (s2 : PySem.W.takesIn K (.builtin "object.__class__") = some true)
    (bS : PySem.W.subIn K (.ref S) (.type "BaseException") = some true) (dS : PySem.W.hasDictIn K S = true) (tS : PySem.W.typeIn K (.ref S) = some (.type "type")) (fV : EcF K V) (fP : EcF K P) (fN : EcF K N)
    (vS : PySem.W.subIn K (.ref V) (.ref S) = some true) (pS : PySem.W.subIn K (.ref P) (.ref S) = some true) (nS : PySem.W.subIn K (.ref N) (.ref S) = some true)
    (vp : PySem.W.subIn K (.ref V) (.ref P) = some false) (vn : PySem.W.subIn K (.ref V) (.ref N) = some false) (pv' : PySem.W.subIn K (.ref P) (.ref V) = some false) (pn : PySem.W.subIn K (.ref P) (.ref N) = some false)
    (nv : PySem.W.subIn K (.ref N) (.ref V) = some false) (np : PySem.W.subIn K (.ref N) (.ref P) = some false)
    (q1 : (Value.ref V == Value.ref P) = false) (q2 : (Value.ref V == Value.ref N) = false) (q3 : (Value.ref P == Value.ref V) = false) (q4 : (Value.ref P == Value.ref N) = false) (q5 : (Value.ref N == Value.ref V) = false) (q6 : (Value.ref N == Value.ref P) = false) : Er K mg S V P N where
  g_SomeError := gS
  g_NoValue := gV
  g_NotPlain := gP
  g_NoNote := gN
  x_NoValue := fV.x
  k_NoValue := fV.k
  b_NoValue := fV.b
  t_NoValue := fV.t
  c_NoValue := fV.c s1 s2
  x_NotPlain := fP.x
  k_NotPlain := fP.k
  b_NotPlain := fP.b
  t_NotPlain := fP.t
  c_NotPlain := fP.c s1 s2
  x_NoNote := fN.x
  k_NoNote := fN.k
  b_NoNote := fN.b
  t_NoNote := fN.t
  c_NoNote := fN.c s1 s2
  m_V := PySem.W.exm_ref bS dS tS vS
  m_P := PySem.W.exm_ref bS dS tS pS
  m_N := PySem.W.exm_ref bS dS tS nS
  i_VV := kit_ref fV.d fV.t fV.me (.inl rfl)
  i_VP := kit_ref fP.d fP.t vp (.inr q1)
  i_VN := kit_ref fN.d fN.t vn (.inr q2)
  i_V := kit_ve fV.ve
  i_PV := kit_ref fV.d fV.t pv' (.inr q3)
  i_PP := kit_ref fP.d fP.t fP.me (.inl rfl)
  i_PN := kit_ref fN.d fN.t pn (.inr q4)
  i_P := kit_ve fP.ve
  i_NV := kit_ref fV.d fV.t nv (.inr q5)
  i_NP := kit_ref fP.d fP.t np (.inr q6)
  i_NN := kit_ref fN.d fN.t fN.me (.inl rfl)
  i_N := kit_ve fN.ve
end XS

namespace XS
open PySem PySem.Spec PyProof.Rows L2
/-! ### statements -/
inductive Stm where
  | above (s : Sm)
  | nought (s : Sm)
  | goes (m : Int) (s : Sm)
  | neg (a : Stm)
  | con (o : Bool) (l : List Stm)
  | bnd (o : Bool) (x : Str) (a : Stm)
def conW (o : Bool) : Str := if o = true then "and" else "or"
def bndW (o : Bool) : Str := if o = true then "all" else "some"
mutual
def toD : Stm → PyData
  | .above s => .tuple [.str "above", sumD s]
  | .nought s => .tuple [.str "nought", sumD s]
  | .goes m s => .tuple [.str "goes", .int m, sumD s]
  | .neg a => .tuple [.str "not", toD a]
  | .con o l => .tuple [.str (conW o), .tuple (toDs l)]
  | .bnd o x a => .tuple [.str (bndW o), .str x, toD a]
def toDs : List Stm → List PyData
  | [] => []
  | a :: l => toD a :: toDs l
end
theorem toDs_map : ∀ l : List Stm, toDs l = l.map toD
  | [] => rfl
  | a :: l => by rw [List.map_cons, ← toDs_map l]; rfl
mutual
def dep : Stm → Nat
  | .above _ => 1
  | .nought _ => 1
  | .goes _ _ => 1
  | .neg a => dep a + 1
  | .con _ l => deps l + 1
  | .bnd _ _ a => dep a + 1
def deps : List Stm → Nat
  | [] => 0
  | a :: l => max (dep a) (deps l)
end
theorem dep_pos (a : Stm) : 0 < dep a := by cases a <;> exact Nat.succ_pos _
theorem dep_in : ∀ {l : List Stm} {a : Stm}, a ∈ l → dep a ≤ deps l
  | b :: l, a, h => by
    have e : deps (b :: l) = max (dep b) (deps l) := rfl
    rcases List.mem_cons.mp h with rfl | h
    · omega
    · have := dep_in h; omega
theorem deps_le : ∀ {l : List Stm} {n : Nat}, (∀ a ∈ l, dep a ≤ n) → deps l ≤ n
  | [], _, _ => Nat.zero_le _
  | b :: l, n, h => by
    have e : deps (b :: l) = max (dep b) (deps l) := rfl
    have h1 := h b (List.mem_cons_self ..)
    have h2 := deps_le (l := l) fun a ha => h a (List.mem_cons_of_mem _ ha)
    omega
/-- all sums keep p, lists are short -/
inductive Ev (p : Sm → Prop) : Stm → Prop
  | above {s : Sm} : p s → Ev p (.above s)
  | nought {s : Sm} : p s → Ev p (.nought s)
  | goes {m : Int} {s : Sm} : p s → 0 < m → Ev p (.goes m s)
  | neg {a : Stm} : Ev p a → Ev p (.neg a)
  | con {o : Bool} {l : List Stm} : (∀ a ∈ l, Ev p a) → l.length ≤ 64 → Ev p (.con o l)
  | bnd {o : Bool} {x : Str} {a : Stm} : Ev p a → Ev p (.bnd o x a)
theorem Ev.mono {p q : Sm → Prop} (h : ∀ s, p s → q s) : ∀ {a : Stm}, Ev p a → Ev q a := by
  intro a e
  induction e with
  | above x => exact .above (h _ x)
  | nought x => exact .nought (h _ x)
  | goes x y => exact .goes (h _ x) y
  | neg _ ih => exact .neg ih
  | con _ hl ih => exact .con ih hl
  | bnd _ ih => exact .bnd ih
/-- what stands right in a statement -/
def parts : Stm → List Stm
  | .above _ => []
  | .nought _ => []
  | .goes _ _ => []
  | .neg a => [a]
  | .con _ l => l
  | .bnd _ _ a => [a]
theorem dep_parts {a b : Stm} (h : b ∈ parts a) : dep b < dep a := by
  cases a with
  | above | nought | goes => cases h
  | neg c | bnd o x c =>
    have e : b = c := by simpa [parts] using h
    subst e
    exact Nat.lt_succ_self _
  | con o l => exact Nat.lt_succ_of_le (dep_in h)
theorem Ev.parts {p : Sm → Prop} {a b : Stm} (e : Ev p a) (h : b ∈ parts a) : Ev p b := by
  cases e with
  | above | nought | goes => cases h
  | @neg c hc =>
    have e : b = c := by simpa [XS.parts] using h
    subst e
    exact hc
  | @bnd o x c hc =>
    have e : b = c := by simpa [XS.parts] using h
    subst e
    exact hc
  | con c _ => exact c _ h
theorem Ev.parts_len {p : Sm → Prop} {a : Stm} (e : Ev p a) : (XS.parts a).length ≤ 64 := by
  cases e with
  | above | nought | goes => exact Nat.zero_le _
  | neg c | bnd c => exact (by decide : (1 : Nat) ≤ 64)
  | con _ h => exact h
def isB : Stm → Bool
  | .bnd _ _ _ => true
  | _ => false
mutual
def plainB : Stm → Bool
  | .above _ => true
  | .nought _ => true
  | .goes _ _ => true
  | .neg a => plainB a
  | .con _ l => plainBs l
  | .bnd _ _ _ => false
def plainBs : List Stm → Bool
  | [] => true
  | a :: l => plainB a && plainBs l
end
theorem plainBs_all : ∀ l : List Stm, plainBs l = l.all plainB
  | [] => rfl
  | a :: l => by rw [List.all_cons, ← plainBs_all l]; rfl
theorem plainB_eq (a : Stm) : plainB a = (!isB a && (parts a).all plainB) := by
  cases a with
  | above | nought | goes => rfl
  | neg c => simp [plainB, isB, parts]
  | bnd o x c => rfl
  | con o l => simp [plainB, isB, parts, plainBs_all]
theorem plain_part {a b : Stm} (h : plainB a = true) (hb : b ∈ parts a) : plainB b = true := by
  rw [plainB_eq] at h
  simp only [Bool.and_eq_true] at h
  exact List.all_eq_true.mp h.2 b hb
/-- the heads -/
def headW : Stm → Str
  | .above _ => "above"
  | .nought _ => "nought"
  | .goes _ _ => "goes"
  | .neg _ => "not"
  | .con o _ => conW o
  | .bnd o _ _ => bndW o
section
variable {K : PySem.W.Frag} {H : Hp}
theorem Dp.one1 {v : V} {d : PyData} {e : List PyData} (h : Dp K H v (.tuple (d :: e))) : ∃ a u us, v = .ref a ∧ SqT K H a (u :: us) ∧ Dp K H u d ∧ DpAll K H us e := by
  cases h with
  | tup hs ha =>
    cases ha with
    | cons h1 h2 => exact ⟨_, _, _, rfl, hs, h1, h2⟩
/-- a statement's tuple: its head, the rest -/
theorem Dp.stm {v : V} {a : Stm} (h : Dp K H v (toD a)) : ∃ p us, v = .ref p ∧ SqT K H p (.str (headW a) :: us) ∧ ∃ ds, toD a = .tuple (.str (headW a) :: ds) ∧ DpAll K H us ds := by
  have key : ∃ ds, toD a = .tuple (.str (headW a) :: ds) := by cases a <;> exact ⟨_, rfl⟩
  obtain ⟨ds, e⟩ := key
  rw [e] at h
  obtain ⟨p, u, us, rfl, h1, h2, h3⟩ := Dp.one1 h
  cases h2
  exact ⟨p, us, rfl, h1, ds, e, h3⟩
end
theorem im_toD : ∀ (n : Nat) (a : Stm), dep a ≤ n → Im (toD a)
  | 0, a, h => by cases a <;> simp [dep] at h
  | n + 1, a, h => by
    cases a with
    | above s => exact im_tup2 (.str _) (im_sum s)
    | nought s => exact im_tup2 (.str _) (im_sum s)
    | goes m s =>
      refine .tup fun d hd => ?_
      rcases List.mem_cons.mp hd with rfl | hd
      · exact .str _
      rcases List.mem_cons.mp hd with rfl | hd
      · exact .int _
      rcases List.mem_cons.mp hd with rfl | hd
      · exact im_sum s
      · cases hd
    | neg c => exact im_tup2 (.str _) (im_toD n c (Nat.le_of_succ_le_succ h))
    | con o l =>
      refine im_tup2 (.str _) ?_
      rw [toDs_map]
      exact im_map fun c hc => im_toD n c (Nat.le_trans (dep_in hc) (Nat.le_of_succ_le_succ h))
    | bnd o x c =>
      refine .tup fun d hd => ?_
      rcases List.mem_cons.mp hd with rfl | hd
      · exact .str _
      rcases List.mem_cons.mp hd with rfl | hd
      · exact .str _
      rcases List.mem_cons.mp hd with rfl | hd
      · exact im_toD n c (Nat.le_of_succ_le_succ h)
      · cases hd
theorem im_stm (a : Stm) : Im (toD a) := im_toD _ a (Nat.le_refl _)
/-! ### constants of the module -/
structure Cs (K : PySem.W.Frag) (mg : Str → Option Value) (oS bN : Addr) : Prop where
  c_OVER_SUMS : mg "OVER_SUMS" = some (.ref oS)
  c_BINDING : mg "BINDING" = some (.ref bN)
  s_OVER_SUMS : ∀ H, SqT K H oS [.str "above", .str "nought", .str "goes"]
  s_BINDING : ∀ H, SqT K H bN [.str "some", .str "all"]
def isEnd : Stm → Bool
  | .above _ => true
  | .nought _ => true
  | .goes _ _ => true
  | _ => false
def isNeg : Stm → Bool
  | .neg _ => true
  | _ => false
theorem in_over (a : Stm) : inV (.str (headW a)) [.str "above", .str "nought", .str "goes"] = isEnd a := by
  cases a with
  | above _ => show inV (.str "above") [.str "above", .str "nought", .str "goes"] = true; decide +kernel
  | nought _ => show inV (.str "nought") [.str "above", .str "nought", .str "goes"] = true; decide +kernel
  | goes _ _ => show inV (.str "goes") [.str "above", .str "nought", .str "goes"] = true; decide +kernel
  | neg _ => show inV (.str "not") [.str "above", .str "nought", .str "goes"] = false; decide +kernel
  | con o l =>
    cases o
    · show inV (.str "or") [.str "above", .str "nought", .str "goes"] = false; decide +kernel
    · show inV (.str "and") [.str "above", .str "nought", .str "goes"] = false; decide +kernel
  | bnd o x c =>
    cases o
    · show inV (.str "some") [.str "above", .str "nought", .str "goes"] = false; decide +kernel
    · show inV (.str "all") [.str "above", .str "nought", .str "goes"] = false; decide +kernel
theorem in_bind (a : Stm) : inV (.str (headW a)) [.str "some", .str "all"] = isB a := by
  cases a with
  | above _ => show inV (.str "above") [.str "some", .str "all"] = false; decide +kernel
  | nought _ => show inV (.str "nought") [.str "some", .str "all"] = false; decide +kernel
  | goes _ _ => show inV (.str "goes") [.str "some", .str "all"] = false; decide +kernel
  | neg _ => show inV (.str "not") [.str "some", .str "all"] = false; decide +kernel
  | con o l =>
    cases o
    · show inV (.str "or") [.str "some", .str "all"] = false; decide +kernel
    · show inV (.str "and") [.str "some", .str "all"] = false; decide +kernel
  | bnd o x c =>
    cases o
    · show inV (.str "some") [.str "some", .str "all"] = true; decide +kernel
    · show inV (.str "all") [.str "some", .str "all"] = true; decide +kernel
def isAb : Stm → Bool
  | .above _ => true
  | _ => false
theorem isAb_eq (a : Stm) : decide (headW a = "above") = isAb a := by
  cases a with
  | above _ => show decide (("above" : Str) = "above") = true; decide +kernel
  | nought _ => show decide (("nought" : Str) = "above") = false; decide +kernel
  | goes _ _ => show decide (("goes" : Str) = "above") = false; decide +kernel
  | neg _ => show decide (("not" : Str) = "above") = false; decide +kernel
  | con o l =>
    cases o
    · show decide (("or" : Str) = "above") = false; decide +kernel
    · show decide (("and" : Str) = "above") = false; decide +kernel
  | bnd o x c =>
    cases o
    · show decide (("some" : Str) = "above") = false; decide +kernel
    · show decide (("all" : Str) = "above") = false; decide +kernel
def isNo : Stm → Bool
  | .nought _ => true
  | _ => false
theorem isNo_eq (a : Stm) : decide (headW a = "nought") = isNo a := by
  cases a with
  | above _ => show decide (("above" : Str) = "nought") = false; decide +kernel
  | nought _ => show decide (("nought" : Str) = "nought") = true; decide +kernel
  | goes _ _ => show decide (("goes" : Str) = "nought") = false; decide +kernel
  | neg _ => show decide (("not" : Str) = "nought") = false; decide +kernel
  | con o l =>
    cases o
    · show decide (("or" : Str) = "nought") = false; decide +kernel
    · show decide (("and" : Str) = "nought") = false; decide +kernel
  | bnd o x c =>
    cases o
    · show decide (("some" : Str) = "nought") = false; decide +kernel
    · show decide (("all" : Str) = "nought") = false; decide +kernel
def isGo : Stm → Bool
  | .goes _ _ => true
  | _ => false
theorem isGo_eq (a : Stm) : decide (headW a = "goes") = isGo a := by
  cases a with
  | above _ => show decide (("above" : Str) = "goes") = false; decide +kernel
  | nought _ => show decide (("nought" : Str) = "goes") = false; decide +kernel
  | goes _ _ => show decide (("goes" : Str) = "goes") = true; decide +kernel
  | neg _ => show decide (("not" : Str) = "goes") = false; decide +kernel
  | con o l =>
    cases o
    · show decide (("or" : Str) = "goes") = false; decide +kernel
    · show decide (("and" : Str) = "goes") = false; decide +kernel
  | bnd o x c =>
    cases o
    · show decide (("some" : Str) = "goes") = false; decide +kernel
    · show decide (("all" : Str) = "goes") = false; decide +kernel
def isOr : Stm → Bool
  | .con false _ => true
  | _ => false
theorem isOr_eq (a : Stm) : decide (headW a = "or") = isOr a := by
  cases a with
  | above _ => show decide (("above" : Str) = "or") = false; decide +kernel
  | nought _ => show decide (("nought" : Str) = "or") = false; decide +kernel
  | goes _ _ => show decide (("goes" : Str) = "or") = false; decide +kernel
  | neg _ => show decide (("not" : Str) = "or") = false; decide +kernel
  | con o l =>
    cases o
    · show decide (("or" : Str) = "or") = true; decide +kernel
    · show decide (("and" : Str) = "or") = false; decide +kernel
  | bnd o x c =>
    cases o
    · show decide (("some" : Str) = "or") = false; decide +kernel
    · show decide (("all" : Str) = "or") = false; decide +kernel
def isAnd : Stm → Bool
  | .con true _ => true
  | _ => false
theorem isAnd_eq (a : Stm) : decide (headW a = "and") = isAnd a := by
  cases a with
  | above _ => show decide (("above" : Str) = "and") = false; decide +kernel
  | nought _ => show decide (("nought" : Str) = "and") = false; decide +kernel
  | goes _ _ => show decide (("goes" : Str) = "and") = false; decide +kernel
  | neg _ => show decide (("not" : Str) = "and") = false; decide +kernel
  | con o l =>
    cases o
    · show decide (("or" : Str) = "and") = false; decide +kernel
    · show decide (("and" : Str) = "and") = true; decide +kernel
  | bnd o x c =>
    cases o
    · show decide (("some" : Str) = "and") = false; decide +kernel
    · show decide (("all" : Str) = "and") = false; decide +kernel
def isSome : Stm → Bool
  | .bnd false _ _ => true
  | _ => false
theorem isSome_eq (a : Stm) : decide (headW a = "some") = isSome a := by
  cases a with
  | above _ => show decide (("above" : Str) = "some") = false; decide +kernel
  | nought _ => show decide (("nought" : Str) = "some") = false; decide +kernel
  | goes _ _ => show decide (("goes" : Str) = "some") = false; decide +kernel
  | neg _ => show decide (("not" : Str) = "some") = false; decide +kernel
  | con o l =>
    cases o
    · show decide (("or" : Str) = "some") = false; decide +kernel
    · show decide (("and" : Str) = "some") = false; decide +kernel
  | bnd o x c =>
    cases o
    · show decide (("some" : Str) = "some") = true; decide +kernel
    · show decide (("all" : Str) = "some") = false; decide +kernel
def isAll : Stm → Bool
  | .bnd true _ _ => true
  | _ => false
theorem isAll_eq (a : Stm) : decide (headW a = "all") = isAll a := by
  cases a with
  | above _ => show decide (("above" : Str) = "all") = false; decide +kernel
  | nought _ => show decide (("nought" : Str) = "all") = false; decide +kernel
  | goes _ _ => show decide (("goes" : Str) = "all") = false; decide +kernel
  | neg _ => show decide (("not" : Str) = "all") = false; decide +kernel
  | con o l =>
    cases o
    · show decide (("or" : Str) = "all") = false; decide +kernel
    · show decide (("and" : Str) = "all") = false; decide +kernel
  | bnd o x c =>
    cases o
    · show decide (("some" : Str) = "all") = false; decide +kernel
    · show decide (("all" : Str) = "all") = true; decide +kernel
theorem is_not (a : Stm) : decide (headW a = "not") = isNeg a := by
  cases a with
  | above _ => show decide (("above" : Str) = "not") = false; decide +kernel
  | nought _ => show decide (("nought" : Str) = "not") = false; decide +kernel
  | goes _ _ => show decide (("goes" : Str) = "not") = false; decide +kernel
  | neg _ => show decide (("not" : Str) = "not") = true; decide +kernel
  | con o l =>
    cases o
    · show decide (("or" : Str) = "not") = false; decide +kernel
    · show decide (("and" : Str) = "not") = false; decide +kernel
  | bnd o x c =>
    cases o
    · show decide (("some" : Str) = "not") = false; decide +kernel
    · show decide (("all" : Str) = "not") = false; decide +kernel
section
variable {K : PySem.W.Frag} {H : Hp} {Q : VK} {p : Addr} {xs : List V} {x : Str} {b : Bool}
theorem x_inT (h : SqT K H p xs) (e : inV (.str x) xs = b) (f : xs.all flatV = true) (q : Q (.bl b) H) : rIn K false (.str x) (.ref p) H Q := ⟨p, xs, rfl, .inr h, rfl, f, by subst e; exact q⟩
theorem x_ninT (h : SqT K H p xs) (e : inV (.str x) xs = b) (f : xs.all flatV = true) (q : Q (.bl (!b)) H) : rIn K true (.str x) (.ref p) H Q := ⟨p, xs, rfl, .inr h, rfl, f, by subst e; exact q⟩
theorem x_inL (h : SqL K H p xs) (e : inV (.str x) xs = b) (f : xs.all flatV = true) (q : Q (.bl b) H) : rIn K false (.str x) (.ref p) H Q := ⟨p, xs, rfl, .inl h, rfl, f, by subst e; exact q⟩
theorem x_ninL (h : SqL K H p xs) (e : inV (.str x) xs = b) (f : xs.all flatV = true) (q : Q (.bl (!b)) H) : rIn K true (.str x) (.ref p) H Q := ⟨p, xs, rfl, .inl h, rfl, f, by subst e; exact q⟩
end
/-! ### promises -/
def sp_parts (K : PySem.W.Frag) : Sp := fun vs H Q _ => ∃ (v : V) (a : Stm), vs = [v] ∧ Dp K H v (toD a) ∧ ∀ t H', Same H H' → Dp K H' (.ref t) (.tuple ((parts a).map toD)) → Q (.ref t) H'
/-- x stands free in a -/
inductive Fr (x : Str) : Stm → Prop
  | above {s : Sm} : x ∈ s.2.map (·.1) → Fr x (.above s)
  | nought {s : Sm} : x ∈ s.2.map (·.1) → Fr x (.nought s)
  | goes {m : Int} {s : Sm} : x ∈ s.2.map (·.1) → Fr x (.goes m s)
  | neg {a : Stm} : Fr x a → Fr x (.neg a)
  | con {o : Bool} {l : List Stm} {a : Stm} : a ∈ l → Fr x a → Fr x (.con o l)
  | bnd {o : Bool} {y : Str} {a : Stm} : x ≠ y → Fr x a → Fr x (.bnd o y a)
/-- the sum of an end -/
def sumOf : Stm → Sm
  | .above s => s
  | .nought s => s
  | .goes _ s => s
  | _ => (0, [])
/-- the name that is bound at the head -/
def bndOf : Stm → List Str
  | .bnd _ x _ => [x]
  | _ => []
theorem fr_iff (x : Str) (a : Stm) : Fr x a ↔ (isEnd a = true ∧ x ∈ (sumOf a).2.map (·.1)) ∨ (x ∉ bndOf a ∧ ∃ b ∈ parts a, Fr x b) := by
  constructor
  · intro h
    cases h with
    | above h => exact .inl ⟨rfl, h⟩
    | nought h => exact .inl ⟨rfl, h⟩
    | goes h => exact .inl ⟨rfl, h⟩
    | neg h => exact .inr ⟨by simp [bndOf], _, by simp [parts], h⟩
    | con hm h => exact .inr ⟨by simp [bndOf], _, hm, h⟩
    | bnd hn h => exact .inr ⟨by simpa [bndOf] using hn, _, by simp [parts], h⟩
  · rintro (⟨e, h⟩ | ⟨hn, b, hb, h⟩)
    · cases a with
      | above s => exact .above h
      | nought s => exact .nought h
      | goes m s => exact .goes h
      | neg c | con o l | bnd o y c => cases e
    · cases a with
      | above | nought | goes => cases hb
      | neg c =>
        have e : b = c := by simpa [parts] using hb
        subst e
        exact .neg h
      | con o l => exact .con hb h
      | bnd o y c =>
        have e : b = c := by simpa [parts] using hb
        subst e
        exact .bnd (by simpa [bndOf] using hn) h
/-- a dict of names, each with True -/
def kOf (ys : List Str) : List (Key × V) := ys.map fun y => (Sum.inr y, V.bl true)
theorem kOf_val (ys : List Str) (x : Str) : valV (kOf ys) (Sum.inr x : Key) = if x ∈ ys then some (.bl true) else none := by
  unfold valV kOf
  rw [List.find?_map]
  have : ((fun kv : Key × V => decide (kv.1 = Sum.inr x)) ∘ fun y : Str => ((Sum.inr y : Key), V.bl true)) = fun y : Str => decide (y = x) := by
    funext y
    exact inr_dec _ _
  rw [this]
  by_cases h : x ∈ ys
  · rw [if_pos h]
    cases e : ys.find? (fun y => decide (y = x)) with
    | none => exact absurd (List.find?_eq_none.mp e x h) (by simp)
    | some y => rfl
  · rw [if_neg h]
    have e : ys.find? (fun y => decide (y = x)) = none := List.find?_eq_none.mpr fun y hy => by
      simp only [decide_eq_true_eq]
      exact fun c => h (by rw [← c]; exact hy)
    rw [e]
    rfl
theorem kOf_put (ys : List Str) (x : Str) : putK (kOf ys) (Sum.inr x : Key) (V.bl true) = kOf (if x ∈ ys then ys else ys ++ [x]) := by
  unfold putK
  have ea : ((kOf ys).any fun kv => decide (kv.1 = (Sum.inr x : Key))) = decide (x ∈ ys) := by
    rw [valV_any, kOf_val]
    split <;> simp_all
  rw [ea]
  by_cases h : x ∈ ys
  · rw [if_pos (by simpa using h), if_pos h]
    unfold kOf
    rw [List.map_map]
    refine List.map_congr_left fun y _ => ?_
    show (if (Sum.inr y : Key) = Sum.inr x then ((Sum.inr y : Key), V.bl true) else ((Sum.inr y : Key), V.bl true)) = _
    split <;> rfl
  · rw [if_neg (by simpa using h), if_neg h]
    unfold kOf
    rw [List.map_append]
    rfl
theorem nd_len : ∀ {xs ys : List Str}, xs.Nodup → (∀ x ∈ xs, x ∈ ys) → xs.length ≤ ys.length
  | [], _, _, _ => Nat.zero_le _
  | x :: xs, ys, nd, h => by
    have nd' := List.nodup_cons.mp nd
    have hx := h x (List.mem_cons_self ..)
    have h2 := nd_len (xs := xs) (ys := ys.erase x) nd'.2 fun y hy => (List.mem_erase_of_ne (fun e => nd'.1 (by rw [← e]; exact hy))).mpr (h y (List.mem_cons_of_mem _ hy))
    rw [List.length_erase_of_mem hx] at h2
    have := List.length_pos_of_mem hx
    rw [List.length_cons]
    omega
/-- all but d stays -/
def But (d : Addr) (H H' : Hp) : Prop := ∀ c o, c ≠ d → H c = some o → H' c = some o
theorem But.refl (d : Addr) (H : Hp) : But d H H := fun _ _ _ h => h
theorem But.trans {d : Addr} {H H1 H2 : Hp} (a : But d H H1) (b : But d H1 H2) : But d H H2 := fun c o n h => b c o n (a c o n h)
theorem Same.but {d : Addr} {H H1 : Hp} (a : Same H H1) : But d H H1 := fun c o _ h => a c o h
theorem But.upd {d : Addr} {H : Hp} {o : HO} : But d H (upd H d o) := fun c o' n h => by rw [upd_ne n]; exact h
theorem But.keeps {d : Addr} {H H1 : Hp} {ks : List (Key × V)} (a : But d H H1) (h : H d = some (.dK ks)) : Keeps H H1 := fun c u k e => by
  refine a c u (fun q => ?_) e
  subst q
  rw [h] at e
  cases e
  rcases k with ⟨_, k⟩ | ⟨_, _, k⟩ <;> cases k
theorem but_same {d : Addr} {H H1 H2 : Hp} (e : Same H H1) (b : But d H1 H2) (h : H d = none) : Same H H2 := fun c o q => b c o (fun z => by subst z; rw [h] at q; cases q) (e c o q)
/-- names found: those of the dict, and those that stand free -/
def sp_find_free (n : Nat) (K : PySem.W.Frag) (nm : List Str) : Sp := fun vs H Q _ => ∃ (v : V) (b d : Addr) (a : Stm) (bs ys : List Str), vs = [v, .ref b, .ref d] ∧ Dp K H v (toD a) ∧ SqT K H b (bs.map V.str) ∧ bs.length + dep a ≤ 1000 ∧ H d = some (.dK (kOf ys)) ∧ ys.Nodup ∧ (∀ y ∈ ys, y ∈ nm) ∧
  Ev (fun s => ∀ x ∈ s.2.map (·.1), x ∈ nm) a ∧ dep a ≤ n ∧ ∀ H' zs, But d H H' → H' d = some (.dK (kOf zs)) → zs.Nodup → (∀ y ∈ zs, y ∈ nm) → (∀ x, x ∈ zs ↔ x ∈ ys ∨ (x ∉ bs ∧ Fr x a)) → Q .non H'
theorem end_sum {K : PySem.W.Frag} {H : Hp} {v : V} {a : Stm} (e : isEnd a = true) (h : Dp K H v (toD a)) : ∃ p us u, v = .ref p ∧ SqT K H p us ∧ atI us (-1) = some u ∧ Dp K H u (sumD (sumOf a)) := by
  cases a with
  | neg c | con o l | bnd o y c => cases e
  | above s | nought s =>
    obtain ⟨p, u, us, rfl, h1, h2, h3⟩ := Dp.one1 h
    cases h3 with
    | cons g1 g2 =>
    cases g2
    exact ⟨p, _, _, rfl, h1, rfl, g1⟩
  | goes m s =>
    obtain ⟨p, u, us, rfl, h1, h2, h3⟩ := Dp.one1 h
    cases h3 with
    | cons g1 g2 =>
    cases g2 with
    | cons g3 g4 =>
    cases g4
    exact ⟨p, _, _, rfl, h1, rfl, g3⟩
def sp_unknowns (K : PySem.W.Frag) (nm : List Str) : Sp := fun vs H Q _ => ∃ (v : V) (a : Stm), vs = [v] ∧ Dp K H v (toD a) ∧ Ev (fun s => ∀ x ∈ s.2.map (·.1), x ∈ nm) a ∧ dep a ≤ 60 ∧
  ∀ l H' zs, H l = none → Same H H' → Rising zs → (∀ x, x ∈ zs ↔ Fr x a) → H' l = some (.lst (zs.map V.str)) → Q (.ref l) H'
def sp_is_plain (n : Nat) (K : PySem.W.Frag) : Sp := fun vs H Q _ => ∃ (v : V) (a : Stm), vs = [v] ∧ Dp K H v (toD a) ∧ dep a ≤ n ∧ ∀ H', Same H H' → Q (.bl (plainB a)) H'
theorem inStrs (x : Str) (ys : List Str) (zs : List V) (e : zs = ys.map V.str) : inV (.str x) zs = decide (x ∈ ys) := by rw [e, inV_str]
/-! ### truth -/
mutual
def tru (f : Str → Int) : Stm → Bool
  | .above s => decide (0 < valS f s)
  | .nought s => decide (valS f s = 0)
  | .goes m s => decide (valS f s % m = 0)
  | .neg a => !tru f a
  | .con o l => if o = true then truAll f l else truAny f l
  | .bnd _ _ _ => false
def truAll (f : Str → Int) : List Stm → Bool
  | [] => true
  | a :: l => tru f a && truAll f l
def truAny (f : Str → Int) : List Stm → Bool
  | [] => false
  | a :: l => tru f a || truAny f l
end
theorem truAll_eq (f : Str → Int) : ∀ l, truAll f l = l.all (tru f)
  | [] => rfl
  | a :: l => by rw [List.all_cons, ← truAll_eq f l]; rfl
theorem truAny_eq (f : Str → Int) : ∀ l, truAny f l = l.any (tru f)
  | [] => rfl
  | a :: l => by rw [List.any_cons, ← truAny_eq f l]; rfl
/-- an end's truth by its sum's value -/
def truN (k : Int) : Stm → Bool
  | .above _ => decide (0 < k)
  | .nought _ => decide (k = 0)
  | .goes m _ => decide (k % m = 0)
  | _ => false
def sp_goes_into : Sp := fun vs H Q _ => ∃ m k : Int, vs = [.int m, .int k] ∧ 0 < m ∧ Q (.bl (decide (k % m = 0))) H
def sp_truN (K : PySem.W.Frag) : Sp := fun vs H Q _ => ∃ (v : V) (a : Stm) (k : Int), vs = [v, .int k] ∧ Dp K H v (toD a) ∧ isEnd a = true ∧ (∀ m s, a = .goes m s → 0 < m) ∧ Q (.bl (truN k a)) H
/-- sums that may be reckoned under m -/
def OkS (m : List Pr) (s : Sm) : Prop := SmlS s ∧ ∀ p ∈ s.2, p.1 ∈ m.map (·.1) ∧ p.1.length ≤ 1000
def sp_truth (n : Nat) (K : PySem.W.Frag) : Sp := fun vs H Q _ => ∃ (v : V) (d : Addr) (a : Stm) (m : List Pr), vs = [v, .ref d] ∧ Dp K H v (toD a) ∧ H d = some (.dK (dOf m)) ∧ (∀ q ∈ m, Sml q.2) ∧ Ev (OkS m) a ∧ plainB a = true ∧ dep a ≤ n ∧ Q (.bl (tru (look m) a)) H
def sp_refuse (K : PySem.W.Frag) (NP : Addr) : Sp := fun vs H Q E => ∃ (v : V) (a : Stm), vs = [v] ∧ Dp K H v (toD a) ∧ dep a ≤ 60 ∧ (plainB a = true → ∀ H', Same H H' → Q .non H') ∧ (plainB a = false → ∀ H', Same H H' → E (.ref NP) none H')
/-- refuse_without_values of names zs -/
def sp_novals (K : PySem.W.Frag) (NV : Addr) : Sp := fun vs H Q E => ∃ (l d : Addr) (zs : List Str) (m : List Pr), vs = [.ref l, .ref d] ∧ SqL K H l (zs.map V.str) ∧ H d = some (.dK (dOf m)) ∧ (∀ x ∈ zs, x.length ≤ 1000) ∧ ((∀ x ∈ zs, x ∈ m.map (·.1)) → ∀ H', Same H H' → Q .non H') ∧ ((∃ x ∈ zs, x ∉ m.map (·.1)) → ∀ H', Same H H' → E (.ref NV) none H')
/-- names of the values are among nm -/
def sp_is_true (K : PySem.W.Frag) (nm : List Str) (NV NP : Addr) : Sp := fun vs H Q E => ∃ (v : V) (d : Addr) (a : Stm) (m : List Pr), vs = [v, .ref d] ∧ Dp K H v (toD a) ∧ H d = some (.dK (dOf m)) ∧ (∀ q ∈ m, Sml q.2) ∧ Ev (fun s => SmlS s ∧ ∀ x ∈ s.2.map (·.1), x ∈ nm) a ∧ dep a ≤ 60 ∧
  (plainB a = false → ∀ H', Same H H' → E (.ref NP) none H') ∧ (plainB a = true → (∃ x, XS.Fr x a ∧ x ∉ m.map (·.1)) → ∀ H', Same H H' → E (.ref NV) none H') ∧ (plainB a = true → (∀ x, XS.Fr x a → x ∈ m.map (·.1)) → ∀ H', Same H H' → Q (.bl (tru (look m) a)) H')
theorem ev_free {p : Sm → Prop} {M : List Str} {a : Stm} (e : Ev p a) : plainB a = true → (∀ x, XS.Fr x a → x ∈ M) → Ev (fun s => p s ∧ ∀ x ∈ s.2.map (·.1), x ∈ M) a := by
  induction e with
  | above h => exact fun _ f => .above ⟨h, fun x hx => f x (.above hx)⟩
  | nought h => exact fun _ f => .nought ⟨h, fun x hx => f x (.nought hx)⟩
  | goes h h2 => exact fun _ f => .goes ⟨h, fun x hx => f x (.goes hx)⟩ h2
  | neg _ ih => exact fun pl f => .neg (ih (plain_part pl (by simp [XS.parts])) fun x hx => f x (.neg hx))
  | con _ hl ih => exact fun pl f => .con (fun c hc => ih c hc (plain_part pl hc) fun x hx => f x (.con hc hx)) hl
  | bnd _ _ => exact fun pl _ => by cases pl
theorem fr_in {M : List Str} {a : Stm} (e : Ev (fun s => ∀ x ∈ s.2.map (·.1), x ∈ M) a) {x : Str} (f : XS.Fr x a) : x ∈ M := by
  induction e with
  | above h => cases f with | above f => exact h x f
  | nought h => cases f with | nought f => exact h x f
  | goes h _ => cases f with | goes f => exact h x f
  | neg _ ih => cases f with | neg f => exact ih f
  | con _ _ ih => cases f with | con hc f => exact ih _ hc f
  | bnd _ ih => cases f with | bnd _ f => exact ih f
end XS

namespace XS
open PySem PySem.Spec PyProof.Rows L2
/-- once a tuple is the tuple -/
theorem once_tup (l : Addr) (its : Array Value) (m : Nat) (od : Option Addr) (slt : Array (Option Value)) (tk : Tok) : Meets (Builtin.«tuple.__mul__» ⟨[.ref l, .int 1 tk], []⟩) (fun _ R s => s.heap.get? l = some { cls := .type "tuple", dict := od, data := .seq its m, slots := slt } ∧ R (.ok (.ret (.ref l))) s) :=
  .of_wp fun prog w A R s0 hh => by
    obtain ⟨hp, gl, dd, tt, oo⟩ := s0
    obtain ⟨e0, hR⟩ := hh
    have idx := AutoSeq1.idx_int
    have yes : (its.isEmpty || (1 : Int) == 1) = true := by simp
    (wp_walk using wpAny_loadPart' e0); exact ⟨_, rfl, hR⟩
/-- t * k, k at least 1 -/
def rRepU (K : PySem.W.Frag) : R2 := fun x y H Q => ∃ l k xs, x = .ref l ∧ y = .int k ∧ SqT K H l xs ∧ xs ≠ [] ∧ 1 ≤ k ∧ k ≤ 1000 ∧ xs.length ≤ 1000 ∧ (k = 1 → Q (.ref l) H) ∧ (2 ≤ k → ∀ p, H p = none → Q (.ref p) (upd H p (.tup (List.replicate k.toNat xs).flatten)))
theorem op_repU {X : Cx} (K : PySem.W.Frag) (hK : X.K = K := by rfl) : OpR X (binaryOp .Mult) (rRepU K) := by
  subst hK
  intro pins s σ H x y v u Q I rx ry h
  obtain ⟨l, k, xs, ex, ey, hT, hne, h1, h2, hz, qa, qb⟩ := h
  by_cases hk : k = 1
  · subst hk ex ey
    cases rx
    obtain ⟨tk, rfl⟩ := ry
    obtain ⟨its, r, ⟨⟨co, od, da, slt⟩, ho, hc, m, hd⟩, hs⟩ := I.tuple hT
    simp only at hc hd
    subst hc hd
    refine wpAny_binaryOp_repeat_ref (T := "tuple") (U := "int") (by decide) ⟨_, ho, rfl⟩ (fun z => typeIs_int z 1 tk) noFill_tuple_mul F.fills_int_mul F.slot_int_rmul repeat_tuple F.slot_int_index.lookup ?_
    refine call_meets F.slot_int_rmul (typeIs_int s 1 tk) F.entry_int_rmul (F.args_int_rmul_2 _ _) (int_rmul_tuple 1 tk l its.toArray m od slt) ⟨ho, rfl, ⟨_, ho, rfl⟩, ?_⟩
    exact call_meets F.slot_tuple_mul ⟨_, ho, rfl⟩ F.entry_tuple_mul (F.args_tuple_mul_2 _ _) (once_tup l its.toArray m od slt tk) ⟨ho, .ref l, H, I, rfl, qa rfl⟩
  · exact op_repT pins s σ H x y v u Q I rx ry ⟨l, k, xs, ex, ey, hT, hne, by omega, h2, hz, qb (by omega)⟩
section
variable {K : PySem.W.Frag} {H : Hp} {Q : VK} {l a b : Addr} {k : Int} {xs ys : List V}
theorem x_repU (h : SqT K H l xs) (hne : xs ≠ []) (h1 : 1 ≤ k) (h2 : k ≤ 1000) (hz : xs.length ≤ 1000) (q : ∀ p H', Same H H' → SqT K H' p (List.replicate k.toNat xs).flatten → Q (.ref p) H') : rRepU K (.ref l) (.int k) H Q :=
  ⟨l, k, xs, rfl, rfl, h, hne, h1, h2, hz, fun e => q l H (Same.refl _) (by subst e; simpa using h), fun _ p hp => q p _ (same_upd hp) (SqT.of upd_same)⟩
theorem x_catA (h1 : SqT K H a xs) (h2 : SqT K H b ys) (n1 : xs ≠ []) (n2 : ys ≠ []) (hz : xs.length + ys.length ≤ 100000) (q : ∀ p H', Same H H' → H' p = some (.tup (xs ++ ys)) → Q (.ref p) H') : rCatA K (.ref a) (.ref b) H Q :=
  ⟨a, b, xs, ys, rfl, rfl, h1, h2, sz hz, fun e => absurd e n1, fun _ e => absurd e n2, fun _ _ p hp => q p _ (same_upd hp) upd_same⟩
end
theorem DpAll.rep {K : PySem.W.Frag} {H : Hp} {v : V} {d : PyData} (h : Dp K H v d) : ∀ n : Nat, DpAll K H (List.replicate n v) (List.replicate n d)
  | 0 => .nil
  | n + 1 => .cons h (DpAll.rep h n)
theorem rep_one {α : Type} (x : α) : ∀ n : Nat, (List.replicate n [x]).flatten = List.replicate n x
  | 0 => rfl
  | n + 1 => by rw [List.replicate_succ, List.flatten_cons, rep_one x n]; rfl
end XS

namespace XS
open PySem PySem.Spec PyProof.Rows L2
/-! ### the statements that the law draws -/
def endBy (c : Int) (nm : List Str) (wd most : Int) : Stm :=
  if c % 4 = 3 then .nought (sumBy (c / 12) nm wd) else if c % 4 = 2 then .goes (1 + c / 4 % most) (sumBy (c / 12) nm wd) else .above (sumBy (c / 12) nm wd)
def turnW (way c : Int) (e a : Stm) : Stm :=
  if way = 0 then .con true [a, e] else if way = 1 then .con false [a, e] else if way = 2 then .con false [.neg a, e] else if way = 3 then .neg (.con true [e, a, .con true []])
  else if way = 4 then .con true [.con false [e, a], .neg e] else if way = 5 then .con false [e, .con false [], a] else if way = 6 then .con true [.neg (.neg a), .neg e]
  else if way = 7 then .con true [.con false [a], .con false [.con true [e]]] else .con (decide (c / 9 % 2 = 0)) ([e, e, a] ++ List.replicate (1 + c / 18 % 18).toNat e)
def turnBy (ns : List Int) (first : Int) (nm : List Str) (wd most : Int) (a : Stm) (i : Nat) : Stm :=
  turnW ((cell ns (first + (1 + i)) + 104729 * (1 + i)) % 9) (cell ns (first + (1 + i)) + 104729 * (1 + i)) (endBy ((cell ns (first + (1 + i)) + 104729 * (1 + i)) / 9) nm wd most) a
def namesFor (b : Int) (nm : List Str) : List Str := if b % 13 = 12 then [] else nm
def plainRun (ns : List Int) (first : Int) (nm : List Str) (wd most : Int) : Nat → Stm
  | 0 => endBy (cell ns first) nm wd most
  | n + 1 => turnBy ns first nm wd most (plainRun ns first nm wd most n) n
def plainBy (ns : List Int) (first count : Int) (nm : List Str) (wd most : Int) : Stm :=
  if cell ns first % 26 = 25 then .con true [] else plainRun ns first (namesFor (cell ns first) nm) wd most (count - 1).toNat
def sp_end_by (K : PySem.W.Frag) : Sp := fun vs H Q _ => ∃ (c wd most : Int) (nl : Addr) (names : List Str), vs = [.int c, .ref nl, .int wd, .int most] ∧ SqL K H nl (names.map V.str) ∧ names.Nodup ∧ names.length ≤ 8 ∧ 0 ≤ wd ∧ wd ≤ 1000 ∧ 0 < most ∧
  ∀ t H', Same H H' → Dp K H' (.ref t) (toD (endBy c names wd most)) → Q (.ref t) H'
def sp_plain_by (K : PySem.W.Frag) : Sp := fun vs H Q _ => ∃ (a : Addr) (ns : List Int) (first count wd most : Int) (nl : Addr) (names : List Str), vs = [.ref a, .int first, .int count, .ref nl, .int wd, .int most] ∧ SqL K H a (ns.map V.int) ∧ 0 ≤ first ∧ first ≤ 1000 ∧ 1 ≤ count ∧ count ≤ 12 ∧
  SqL K H nl (names.map V.str) ∧ names.Nodup ∧ names.length ≤ 8 ∧ 0 ≤ wd ∧ wd ≤ 1000 ∧ 0 < most ∧ ∀ t H', Same H H' → Dp K H' (.ref t) (toD (plainBy ns first count names wd most)) → Q (.ref t) H'
theorem endBy_is (c : Int) (nm : List Str) (wd most : Int) : isEnd (endBy c nm wd most) = true ∧ dep (endBy c nm wd most) = 1 ∧ plainB (endBy c nm wd most) = true := by
  unfold endBy
  split
  · exact ⟨rfl, rfl, rfl⟩
  · split <;> exact ⟨rfl, rfl, rfl⟩
theorem endBy_ev {p : Sm → Prop} (c : Int) (nm : List Str) (wd most : Int) (hm : 0 < most) (h : p (sumBy (c / 12) nm wd)) : Ev p (endBy c nm wd most) := by
  unfold endBy
  split
  · exact .nought h
  · split
    · exact .goes h (by have := Int.emod_nonneg (c / 4) (by omega : most ≠ 0); omega)
    · exact .above h
section
variable {K : PySem.W.Frag} {H : Hp}
theorem Dp.mkAbove {t : Addr} {u : V} {s : Sm} (h : SqT K H t [.str "above", u]) (g : Dp K H u (sumD s)) : Dp K H (.ref t) (toD (.above s)) := .tup h (.cons (.str _) (.one g))
theorem Dp.mkNought {t : Addr} {u : V} {s : Sm} (h : SqT K H t [.str "nought", u]) (g : Dp K H u (sumD s)) : Dp K H (.ref t) (toD (.nought s)) := .tup h (.cons (.str _) (.one g))
theorem Dp.mkGoes {t : Addr} {u : V} {m : Int} {s : Sm} (h : SqT K H t [.str "goes", .int m, u]) (g : Dp K H u (sumD s)) : Dp K H (.ref t) (toD (.goes m s)) := .tup h (.cons (.str _) (.cons (.int _) (.one g)))
theorem Dp.mkNeg {t : Addr} {u : V} {a : Stm} (h : SqT K H t [.str "not", u]) (g : Dp K H u (toD a)) : Dp K H (.ref t) (toD (.neg a)) := .tup h (.cons (.str _) (.one g))
theorem Dp.mkCon {t r : Addr} {us : List V} {o : Bool} {l : List Stm} {w : Str} (h : SqT K H t [.str w, .ref r]) (hw : w = conW o) (h2 : SqT K H r us) (g : DpAll K H us (l.map toD)) : Dp K H (.ref t) (toD (.con o l)) := by
  subst hw
  refine .tup h (.cons (.str _) (.one ?_))
  rw [toDs_map]
  exact .tup h2 g
theorem Dp.mkBnd {t : Addr} {u : V} {o : Bool} {x : Str} {a : Stm} {w : Str} (h : SqT K H t [.str w, .str x, u]) (hw : w = bndW o) (g : Dp K H u (toD a)) : Dp K H (.ref t) (toD (.bnd o x a)) := by
  subst hw
  exact .tup h (.cons (.str _) (.cons (.str _) (.one g)))
end
end XS
namespace XS
open PySem PySem.Spec PyProof.Rows L2
def sp_lfree (n : Nat) (K : PySem.W.Frag) (nm : List Str) : Sp := fun vs H Q _ => ∃ (v : V) (b : Addr) (a : Stm) (bs : List Str), vs = [v, .ref b] ∧ Dp K H v (toD a) ∧ H b = some (.lst (bs.map V.str)) ∧ bs.length + dep a ≤ 1000 ∧ Ev (fun s => (∀ x ∈ s.2.map (·.1), x ∈ nm) ∧ (s.2.map (·.1)).Nodup) a ∧ dep a ≤ n ∧
  ∀ l H' (zs : List Str), Same H H' → H l = none → H' l = some (.lst (zs.map V.str)) → zs.Nodup → (∀ x, x ∈ zs ↔ x ∉ bs ∧ XS.Fr x a) → Q (.ref l) H'
theorem fr_end {x : Str} {a : Stm} (e : isEnd a = true) : XS.Fr x a ↔ x ∈ (sumOf a).2.map (·.1) := by
  rw [fr_iff]
  have hp : parts a = [] := by cases a <;> first | rfl | cases e
  rw [hp, e]
  simp
def boundBy (c : Int) (a : Stm) (names : List Str) : Stm :=
  let i := Stm.bnd (decide (c % 2 = 1)) (names.getD (c / 2 % 4).toNat "") a
  if c / 8 % 4 = 0 then i else if c / 8 % 4 = 1 then .neg i else if c / 8 % 4 = 2 then .con true [a, i] else .con false [.con true [], .neg (.con false [i, a])]
def sp_bound_by (K : PySem.W.Frag) : Sp := fun vs H Q _ => ∃ (c : Int) (v : V) (nl : Addr) (a : Stm) (names : List Str), vs = [.int c, v, .ref nl] ∧ Dp K H v (toD a) ∧ SqL K H nl (names.map V.str) ∧ names.length = 4 ∧ ∀ t H', Same H H' → Dp K H' (.ref t) (toD (boundBy c a names)) → Q (.ref t) H'
/-- an end whose sum comes near nought -/
def edgeOne (c : Int) (nm : List Str) (m : List Pr) : Sm := ((sumBy (c / 12) nm 3).1 - valS (look m) (sumBy (c / 12) nm 3) + c % 3 - 1, (sumBy (c / 12) nm 3).2)
def edgeEnd (c : Int) (nm : List Str) (m : List Pr) : Stm := if c / 3 % 3 = 0 then .above (edgeOne c nm m) else if c / 3 % 3 = 1 then .nought (edgeOne c nm m) else .goes (1 + c / 9 % 40) (edgeOne c nm m)
def edgeBy (c : Int) (nm : List Str) (m : List Pr) : Stm := if c / 7 % 2 = 1 then .neg (edgeEnd c nm m) else edgeEnd c nm m
def sp_edge_by (K : PySem.W.Frag) : Sp := fun vs H Q _ => ∃ (c : Int) (nl d : Addr) (names : List Str) (m : List Pr), vs = [.int c, .ref nl, .ref d] ∧ SqL K H nl (names.map V.str) ∧ names.Nodup ∧ names.length ≤ 8 ∧ H d = some (.dK (dOf m)) ∧ (∀ q ∈ m, Sml q.2) ∧ (∀ x ∈ names, x ∈ m.map (·.1)) ∧
  ∀ t H', Same H H' → Dp K H' (.ref t) (toD (edgeBy c names m)) → Q (.ref t) H'
/-- what is_true answers: True or False, or the word of its refusal -/
def sp_answer (K : PySem.W.Frag) (nm : List Str) : Sp := fun vs H Q _ => ∃ (v : V) (d : Addr) (a : Stm) (m : List Pr), vs = [v, .ref d] ∧ Dp K H v (toD a) ∧ H d = some (.dK (dOf m)) ∧ (∀ q ∈ m, Sml q.2) ∧ Ev (fun s => SmlS s ∧ ∀ x ∈ s.2.map (·.1), x ∈ nm) a ∧ dep a ≤ 60 ∧
  (plainB a = false → ∀ H', Same H H' → Q (.str "not plain") H') ∧ (plainB a = true → (∃ x, XS.Fr x a ∧ x ∉ m.map (·.1)) → ∀ H', Same H H' → Q (.str "no value") H') ∧ (plainB a = true → (∀ x, XS.Fr x a → x ∈ m.map (·.1)) → ∀ H', Same H H' → Q (.bl (tru (look m) a)) H')
end XS

namespace XS
open PySem PySem.Spec PyProof.Rows L2
/-! ### what is drawn is right -/
/-- a drawn sum: of the names nm, each once -/
def DrS (nm : List Str) (s : Sm) : Prop := SmlS s ∧ (∀ x ∈ s.2.map (·.1), x ∈ nm) ∧ (s.2.map (·.1)).Nodup
/-- sums p, plain, at most n deep -/
structure Good (p : Sm → Prop) (n : Nat) (a : Stm) : Prop where
  ev : Ev p a
  pl : plainB a = true
  dp : dep a ≤ n
theorem Good.mono {p : Sm → Prop} {n m : Nat} {a : Stm} (g : Good p n a) (h : n ≤ m) : Good p m a := ⟨g.ev, g.pl, Nat.le_trans g.dp h⟩
theorem Good.neg {p : Sm → Prop} {n : Nat} {a : Stm} (g : Good p n a) : Good p (n + 1) (.neg a) := ⟨.neg g.ev, g.pl, Nat.succ_le_succ g.dp⟩
theorem Good.con {p : Sm → Prop} {n : Nat} {o : Bool} {l : List Stm} (g : ∀ a ∈ l, Good p n a) (hl : l.length ≤ 64) : Good p (n + 1) (.con o l) :=
  ⟨.con (fun a ha => (g a ha).ev) hl, by show plainBs l = true; rw [plainBs_all]; exact List.all_eq_true.mpr fun a ha => (g a ha).pl, Nat.succ_le_succ (deps_le fun a ha => (g a ha).dp)⟩
theorem Good.con0 {p : Sm → Prop} {n : Nat} {o : Bool} : Good p (n + 1) (.con o []) := Good.con (fun a ha => by cases ha) (by simp)
theorem Good.con1 {p : Sm → Prop} {n : Nat} {o : Bool} {a : Stm} (g : Good p n a) : Good p (n + 1) (.con o [a]) := Good.con (fun b hb => by rw [List.mem_singleton.mp hb]; exact g) (by simp)
theorem Good.con2 {p : Sm → Prop} {n : Nat} {o : Bool} {a b : Stm} (g : Good p n a) (h : Good p n b) : Good p (n + 1) (.con o [a, b]) := Good.con (fun c hc => by
  rcases List.mem_cons.mp hc with rfl | hc
  · exact g
  · rw [List.mem_singleton.mp hc]; exact h) (by simp)
theorem Good.con3 {p : Sm → Prop} {n : Nat} {o : Bool} {a b c : Stm} (g : Good p n a) (h : Good p n b) (k : Good p n c) : Good p (n + 1) (.con o [a, b, c]) := Good.con (fun d hd => by
  rcases List.mem_cons.mp hd with rfl | hd
  · exact g
  rcases List.mem_cons.mp hd with rfl | hd
  · exact h
  · rw [List.mem_singleton.mp hd]; exact k) (by simp)
theorem endBy_good {p : Sm → Prop} {c wd most : Int} {nm : List Str} (hm : 0 < most) (h : p (sumBy (c / 12) nm wd)) : Good p 1 (endBy c nm wd most) := ⟨endBy_ev c nm wd most hm h, (endBy_is c nm wd most).2.2, Nat.le_of_eq (endBy_is c nm wd most).2.1⟩
theorem turnW_good {p : Sm → Prop} {way c : Int} {e a : Stm} {n : Nat} (ge : Good p (n + 1) e) (ga : Good p (n + 1) a) : Good p (n + 4) (turnW way c e a) := by
  have u {m k : Nat} {b : Stm} (g : Good p m b) (h : m ≤ k) : Good p k b := g.mono h
  have E2 := u ge (by omega : n + 1 ≤ n + 2)
  have A2 := u ga (by omega : n + 1 ≤ n + 2)
  have E3 := u ge (by omega : n + 1 ≤ n + 3)
  have A3 := u ga (by omega : n + 1 ≤ n + 3)
  unfold turnW
  split
  · exact Good.con2 A3 E3
  split
  · exact Good.con2 A3 E3
  split
  · exact Good.con2 A2.neg E3
  split
  · exact (Good.con3 E2 A2 Good.con0).neg
  split
  · exact Good.con2 (Good.con2 E2 A2) E2.neg
  split
  · exact Good.con3 E3 Good.con0 A3
  split
  · exact Good.con2 ga.neg.neg E2.neg
  split
  · exact Good.con2 (Good.con1 A2) (Good.con1 (Good.con1 ge))
  · refine Good.con (n := n + 3) (fun b hb => ?_) ?_
    · rcases List.mem_append.mp hb with hb | hb
      · rcases List.mem_cons.mp hb with rfl | hb
        · exact E3
        rcases List.mem_cons.mp hb with rfl | hb
        · exact E3
        · rw [List.mem_singleton.mp hb]; exact A3
      · rw [List.eq_of_mem_replicate hb]; exact E3
    · have h1 := Int.emod_lt_of_pos (c / 18) (by decide : (0 : Int) < 18)
      rw [List.length_append, List.length_replicate]
      show 3 + _ ≤ 64
      omega
theorem plainRun_good {p : Sm → Prop} {ns : List Int} {first wd most : Int} {nm : List Str} (hm : 0 < most) (h : ∀ c, p (sumBy c nm wd)) : ∀ i : Nat, Good p (1 + 3 * i) (plainRun ns first nm wd most i)
  | 0 => endBy_good hm (h _)
  | i + 1 => by
    have e : 1 + 3 * (i + 1) = 3 * i + 4 := by omega
    rw [e]
    have ih := plainRun_good (ns := ns) (first := first) hm h i
    exact turnW_good (n := 3 * i) ((endBy_good hm (h _)).mono (by omega)) (ih.mono (by omega))
theorem plainBy_good {p : Sm → Prop} {ns : List Int} {first count wd most : Int} {nm : List Str} (hm : 0 < most) (h : ∀ c nm', nm' = nm ∨ nm' = [] → p (sumBy c nm' wd)) (hc : count ≤ 6) : Good p 16 (plainBy ns first count nm wd most) := by
  unfold plainBy
  split
  · exact Good.con0.mono (n := 0 + 1) (by omega)
  · refine (plainRun_good hm (fun c => h c _ ?_) _).mono (by omega)
    unfold namesFor
    split
    · exact .inr rfl
    · exact .inl rfl
theorem edgeBy_good {p : Sm → Prop} {c : Int} {nm : List Str} {m : List Pr} (h : p (edgeOne c nm m)) : Good p 2 (edgeBy c nm m) := by
  have g : Good p 1 (edgeEnd c nm m) := by
    unfold edgeEnd
    split
    · exact ⟨.above h, rfl, Nat.le_refl _⟩
    split
    · exact ⟨.nought h, rfl, Nat.le_refl _⟩
    · exact ⟨.goes h (by have := Int.emod_nonneg (c / 9) (by decide : (40 : Int) ≠ 0); omega), rfl, Nat.le_refl _⟩
  unfold edgeBy
  split
  · exact g.neg
  · exact g.mono (by omega)
/-- some or all round it: not plain -/
theorem boundBy_is {p : Sm → Prop} {c : Int} {a : Stm} {names : List Str} {n : Nat} (e : Ev p a) (hd : dep a ≤ n) : Ev p (boundBy c a names) ∧ plainB (boundBy c a names) = false ∧ dep (boundBy c a names) ≤ n + 4 := by
  have eb : Ev p (Stm.bnd (decide (c % 2 = 1)) (names.getD (c / 2 % 4).toNat "") a) := .bnd e
  have d1 : dep (Stm.bnd (decide (c % 2 = 1)) (names.getD (c / 2 % 4).toNat "") a) = dep a + 1 := rfl
  have pb : plainB (Stm.bnd (decide (c % 2 = 1)) (names.getD (c / 2 % 4).toNat "") a) = false := rfl
  unfold boundBy
  dsimp only
  generalize Stm.bnd (decide (c % 2 = 1)) (names.getD (c / 2 % 4).toNat "") a = i at eb d1 pb
  split
  · exact ⟨eb, pb, by omega⟩
  split
  · exact ⟨.neg eb, pb, by show dep i + 1 ≤ _; omega⟩
  split
  · refine ⟨.con (fun b hb => ?_) (by simp), ?_, ?_⟩
    · rcases List.mem_cons.mp hb with rfl | hb
      · exact e
      · rw [List.mem_singleton.mp hb]; exact eb
    · show (plainB a && (plainB i && true)) = false
      rw [pb]; simp
    · show max (dep a) (max (dep i) 0) + 1 ≤ _
      omega
  · refine ⟨.con (fun b hb => ?_) (by simp), ?_, ?_⟩
    · rcases List.mem_cons.mp hb with rfl | hb
      · exact .con (fun b hb => by cases hb) (by simp)
      · rw [List.mem_singleton.mp hb]
        refine .neg (.con (fun b hb => ?_) (by simp))
        rcases List.mem_cons.mp hb with rfl | hb
        · exact eb
        · rw [List.mem_singleton.mp hb]; exact e
    · show (true && ((plainB i && (plainB a && true)) && true)) = false
      rw [pb]; rfl
    · show max (0 + 1) (max (max (dep i) (max (dep a) 0) + 1 + 1) 0) + 1 ≤ _
      omega
end XS
namespace XS
open PySem PySem.Spec PyProof.Rows L2
theorem But.seqL {K : PySem.W.Frag} {d a : Addr} {H H1 : Hp} {ks : List (Key × V)} {xs : List V} (b : But d H H1) (h : H d = some (.dK ks)) (s : SqL K H a xs) : SqL K H1 a xs := by
  rcases s with (s | ⟨o, s⟩) | s
  · exact .inl (.inl (b _ _ (fun q => by subst q; rw [h] at s; cases s) s))
  · exact .inl (.inr ⟨o, b _ _ (fun q => by subst q; rw [h] at s; cases s) s⟩)
  · exact .inr s
theorem But.lst {d a : Addr} {H H1 : Hp} {ks : List (Key × V)} {xs : List V} (b : But d H H1) (h : H d = some (.dK ks)) (s : H a = some (.lst xs)) : H1 a = some (.lst xs) := b _ _ (fun q => by subst q; rw [h] at s; cases s) s
theorem al_strs {n : Nat} {ys : List Str} (h : ys.length ≤ 1000) : Al (n + 1) (.list (ys.map PyData.str)) := .lst (fun d hd => by
  obtain ⟨y, _, rfl⟩ := List.mem_map.mp hd
  exact .str y) (by rw [List.length_map]; exact h)
theorem putP_b {m : List Pr} {x : Str} {v : Int} {B : Nat} (h : ∀ q ∈ m, q.2.natAbs ≤ B) (hv : v.natAbs ≤ B) : ∀ q ∈ putP m x v, q.2.natAbs ≤ B := by
  unfold putP
  split
  · intro q hq
    obtain ⟨p, hp, rfl⟩ := List.mem_map.mp hq
    split
    · exact hv
    · exact h p hp
  · intro q hq
    rcases List.mem_append.mp hq with hq | hq
    · exact h q hq
    · rw [List.mem_singleton.mp hq]; exact hv
end XS
namespace XS
open PySem PySem.Spec PyProof.Rows L2
theorem cs_tup {K : PySem.W.Frag} {a : Addr} {od : Option Addr} {its : Array Value} {n : Nat} {sl : Array (Option Value)} {xs : List V} (l : K.lookup a = some ⟨.type "tuple", od, .seq its n, sl⟩) (hz : its.size ≤ sizeLine) (r : Vals xs its.toList) : ∀ H, SqT K H a xs := fun _ => .inr ⟨_, its, n, l, rfl, rfl, hz, r⟩
end XS

namespace XG
open PySem PySem.Spec PyProof.Rows L2
/-! ### sets of keys of one kind, with the order that a walk wants -/
section
variable {κ : Type} [DecidableEq κ] {P : Program} {w : World}
/-- the keys of the entries -/
def ks (key : Value → κ) (l : List (Int × Value)) : List κ := l.map fun e => key e.2
structure SetD (knd : KeyKind P w κ) (key : Value → κ) (S : κ → Bool) (es : Array (Int × Value)) (t : SetTable) : Prop where
  el : ElemsOf knd es.toList
  nd : (ks key es.toList).Nodup
  mem : ∀ k, S k = true ↔ k ∈ ks key es.toList
  few : es.size < scanBound
  fit : t.fits es.size = true
  ris : Ris t.place.toList
  led : w.params.followText "set-order" = true ∨ t.led = true
def SetX (knd : KeyKind P w κ) (key : Value → κ) (h : Heap) (a : Addr) (S : κ → Bool) (n : Nat) : Prop :=
  ∃ o es ep t, h.get? a = some o ∧ o.ExactSet ∧ o.data = .set es ep t ∧ es.size = n ∧ SetD knd key S es t
variable {knd : KeyKind P w κ} {key : Value → κ} {A : Around} {E : Value → Shared → Prop} {s : Shared} {a : Addr} {S : κ → Bool} {n : Nat}
theorem SetX.keep {h h' : Heap} (R : SetX knd key h a S n) (k : ∀ o, h.get? a = some o → h'.get? a = some o) : SetX knd key h' a S n := by
  obtain ⟨o, es, ep, t, ho, rest⟩ := R
  exact ⟨o, es, ep, t, k o ho, rest⟩
theorem SetX.ext {h : Heap} {S' : κ → Bool} (R : SetX knd key h a S n) (e : ∀ k, S' k = S k) : SetX knd key h a S' n := by
  have : S' = S := funext e
  rw [this]; exact R
theorem ks_mem (hk : ∀ k v, knd.is k v = true → key v = k) {l : List (Int × Value)} (el : ElemsOf knd l) (k : κ) : k ∈ ks key l ↔ ∃ e ∈ l, knd.is k e.2 = true := by
  unfold ks
  rw [List.mem_map]
  refine ⟨fun ⟨e, he, q⟩ => ⟨e, he, ?_⟩, fun ⟨e, he, q⟩ => ⟨e, he, hk _ _ q⟩⟩
  obtain ⟨⟨k', h1, _⟩, _⟩ := el e he
  have := hk _ _ h1
  rw [← q, this]; exact h1
theorem stored {h : Heap} {o : Obj} {es es' : Array (Int × Value)} {ep : Nat} {t t' : SetTable} (ho : h.get? a = some o) (hd : o.data = .set es ep t) :
    (h.update a (Obj.putSet es' t')).get? a = some { o with data := .set es' (ep + 1) t' } := L2.store_at ho hd
theorem add_end {f : Bool → Sem Unit} (hf0 : ∀ (b : Bool) (s1 : Shared) (Q1 : Unit → Shared → Prop), Q1 () s1 → wpAny (model P w) A (f b) Q1 E s1)
    {o : Obj} {es es1 : Array (Int × Value)} {ep : Nat} {t t2 : SetTable} (ho : s.heap.get? a = some o) (hx : o.ExactSet) (hd : o.data = .set es ep t) (D : SetD knd key S es1 t2) {wd : Bool} {R : Option Bool → Shared → Prop}
    (hR : ∀ h2, Heap.SameBut a s.heap h2 → SetX knd key h2 a S es1.size → R (some true) { s with heap := h2 }) :
    wpAny (model P w) A (do
        storeSet a es1 t2
        if (!wd && t2.tooFull) = true then do
            f (relayAll t2 es1 (SetTable.grown es1.size)).2.2
            storeSet a (relayAll t2 es1 (SetTable.grown es1.size)).1 (relayAll t2 es1 (SetTable.grown es1.size)).2.1
            pure (some true)
          else pure (some true)) R E s := by
  refine wpAny_bind (wpAny_storeSet_of ho hd ?_ (fits_of_scanBound D.few))
  have o1 := stored (es' := es1) (t' := t2) ho hd
  have b1 := Heap.SameBut.update s.heap a (Obj.putSet es1 t2)
  by_cases c : (!wd && t2.tooFull) = true
  · rw [if_pos c]
    have p1 := relayAll_perm t2 es1 (SetTable.grown es1.size)
    have p2 := relayAll_fits t2 es1 (SetTable.grown es1.size)
    have p3 := relayAll_ris t2 es1 (SetTable.grown es1.size)
    have p4 := relayAll_led t2 es1 (SetTable.grown es1.size)
    generalize relayAll t2 es1 (SetTable.grown es1.size) = Z at p1 p2 p3 p4 ⊢
    obtain ⟨es2, t3, gv⟩ := Z
    simp only at p1 p2 p3 p4 ⊢
    have z : es2.size = es1.size := by have := p1.length_eq; rwa [Array.length_toList, Array.length_toList] at this
    refine wpAny_bind (hf0 _ _ _ (wpAny_bind (wpAny_storeSet_of o1 rfl ?_ (fits_of_scanBound (by rw [z]; exact D.few)))))
    have pk : (ks key es2.toList).Perm (ks key es1.toList) := p1.map _
    exact wpAny_pure (hR _ (b1.trans (Heap.SameBut.update _ a _)) ⟨_, es2, _, t3, stored (es' := es2) (t' := t3) o1 rfl, hx, rfl, z, D.el.perm p1, pk.nodup_iff.mpr D.nd, fun k => (D.mem k).trans pk.mem_iff.symm, by rw [z]; exact D.few, p2, p3, D.led.imp id fun q => by rw [p4]; exact q⟩)
  · rw [if_neg c]
    exact wpAny_pure (hR _ b1 ⟨_, es1, _, t2, o1, hx, rfl, rfl, D⟩)
theorem add_hashed (hk : ∀ k v, knd.is k v = true → key v = k) {k : κ} {x : Value} {Q : Bool → Shared → Prop} (kx : knd.is k x = true) (hs : x.scannable = true) (R : SetX knd key s.heap a S n) (room : n + 1 < scanBound)
    (hQ : ∀ h2, Heap.SameBut a s.heap h2 → SetX knd key h2 a (fun j => S j || decide (j = k)) (if S k = true then n else n + 1) → Q (!S k) { s with heap := h2 }) :
    wpAny (model P w) A (setAddHashed a x (knd.hash k)) Q E s := by
  obtain ⟨o, es, ep, t, ho, hx, hd, hn, D⟩ := R
  unfold setAddHashed setAddHashedIn
  refine wpAny_holding ?_
  refine wpAny_bind (wpAny_setState_of ho hd D.fit ?_)
  simp only
  rw [byScan_of hs D.few D.el]
  simp only [↓reduceIte]
  unfold setAddByScan
  refine wpAny_bind (wpAny_bind (wpAny_rule (wpAny_bind (wpAny_setScan_of kx ho hd D.fit D.el ?_))))
  have inl : S k = true ↔ ∃ e ∈ es.toList, knd.is k e.2 = true := (D.mem k).trans (ks_mem hk D.el k)
  cases fi : es.toList.findIdx? (fun e => knd.is k e.2) with
  | some j =>
    simp only
    obtain ⟨hj, pj, _⟩ := List.findIdx?_eq_some_iff_getElem.mp fi
    have yes : S k = true := inl.mpr ⟨es.toList[j], List.getElem_mem hj, pj⟩
    have m2 : ∀ i, (S i || decide (i = k)) = true ↔ i ∈ ks key es.toList := fun i => by
      rw [Bool.or_eq_true, decide_eq_true_eq, ← D.mem i]
      exact ⟨fun z => z.elim id fun e => e ▸ yes, .inl⟩
    have q := hQ s.heap (Heap.SameBut.refl a s.heap) ⟨o, es, ep, t, ho, hx, hd, by rw [if_pos yes]; exact hn, ⟨D.el, D.nd, m2, D.few, D.fit, D.ris, D.led⟩⟩
    rw [yes] at q
    exact wpAny_pure (wpAny_pure q)
  | none =>
    simp only
    have no : S k = false := Bool.eq_false_iff.mpr fun z => by
      obtain ⟨e, he, q⟩ := inl.mp z
      rw [List.findIdx?_eq_none_iff.mp fi e he] at q
      cases q
    have nk : k ∉ ks key es.toList := fun z => by rw [(D.mem k).mpr z] at no; cases no
    have gv : ∀ (b : Bool) {s1 : Shared} {Q1 : Unit → Shared → Prop}, Q1 () s1 → wpAny (model P w) A (match b with | true => rule "set.scan.the-table-gave-way" | false => pure ()) Q1 E s1 := by
      intro b s1 Q1 q
      cases b
      · exact wpAny_pure q
      · exact wpAny_rule q
    have p1 := layNew_perm t es (knd.hash k) x
    have p2 := layNew_fits t es (knd.hash k) x
    have p3 := layNew_ris t es (knd.hash k) x D.ris
    have p4 := layNew_led t es (knd.hash k) x
    generalize layNew t es (knd.hash k) x = Z at p1 p2 p3 p4 ⊢
    obtain ⟨es1, t1, wd, gave⟩ := Z
    simp only at p1 p2 p3 p4 ⊢
    rw [Array.toList_push] at p1
    have pc : es1.toList.Perm ((knd.hash k, x) :: es.toList) := p1.trans (List.perm_append_singleton _ _)
    have pk : (ks key es1.toList).Perm (k :: ks key es.toList) := by
      have := pc.map fun e => key e.2
      rw [List.map_cons] at this
      have ex : key x = k := hk _ _ kx
      simp only [ex] at this
      exact this
    have zn : es1.size = n + 1 := by have := pc.length_eq; rw [Array.length_toList, List.length_cons, Array.length_toList, hn] at this; exact this
    have D1 : ∀ t2 : SetTable, t2.fits es1.size = true → Ris t2.place.toList → t2.led = t.led → SetD knd key (fun j => S j || decide (j = k)) es1 t2 := fun t2 f2 r2 l2 =>
      { el := (D.el.push kx hs).perm p1
        nd := pk.nodup_iff.mpr (List.nodup_cons.mpr ⟨nk, D.nd⟩)
        mem := fun i => by
          rw [Bool.or_eq_true, decide_eq_true_eq, D.mem i, pk.mem_iff, List.mem_cons]
          exact Or.comm
        few := by rw [zn]; exact room
        fit := f2
        ris := r2
        led := D.led.imp id fun z => by rw [l2]; exact z }
    have fin : ∀ h2, Heap.SameBut a s.heap h2 → SetX knd key h2 a (fun j => S j || decide (j = k)) es1.size → Q true { s with heap := h2 } := fun h2 sb r => by
      have q := hQ h2 sb
      rw [no] at q
      rw [zn] at r
      exact q r
    refine wpAny_bind (gv _ ?_)
    split
    · refine wpAny_bind ?_
      rw [hashByValue_scannable 8 hs]
      refine wpAny_pure (add_end ?_ ho hx hd (D1 _ ?_ ?_ ?_) ?_)
      · intro b s1 Q1 q
        cases b
        · exact wpAny_pure q
        · exact wpAny_rule q
      · split
        · exact p2
        · exact SetTable.fits_plain_off p2
      · split <;> exact p3
      · split <;> exact p4
      · intro h2 sb r; simp only; exact wpAny_pure (fin h2 sb r)
    · refine wpAny_bind (wpAny_pure ?_)
      simp only [↓reduceIte]
      refine add_end ?_ ho hx hd (D1 _ p2 p3 p4) ?_
      · intro b s1 Q1 q
        cases b
        · exact wpAny_pure q
        · exact wpAny_rule q
      · intro h2 sb r; simp only; exact wpAny_pure (fin h2 sb r)
theorem upd_loop (hk : ∀ k v, knd.is k v = true → key v = k) {I : Addr} {fp wr : List Addr} {G : Array GenState → Array GenState → Prop} {m : Nat} {Pv : Nat → Value → Prop} {St : Nat → Shared → Prop} {R : Result → Shared → Prop}
    (W : WalksS P w A.in1 I fp wr G m Pv St) (T : Addr) (hT : T ∉ fp) (xs : List κ) (hm : m = xs.length) (hb : m + 1 < scanBound) (item : ∀ i v, Pv i v → ∃ k, xs[i]? = some k ∧ knd.is k v = true ∧ v.scannable = true) :
    ∀ (j i : Nat) (s : Shared), i + j = m → St i s → (∃ c, c ≤ i ∧ SetX knd key s.heap T (fun z => decide (z ∈ xs.take i)) c) →
      (∀ s2 c, Moved (T :: wr) G s s2 → c ≤ m → SetX knd key s2.heap T (fun z => decide (z ∈ xs)) c → R (.ok (.ret .none)) s2) → codeAny (model P w) A (.builtin "set.update.loop" ⟨[.ref T, .ref I], []⟩) R s := by
  have Tw : T ∉ wr := fun h => hT (W.sub _ h)
  have more : ∀ b ∈ wr, b ∈ T :: wr := fun b h => List.mem_cons_of_mem _ h
  intro j
  induction j with
  | zero =>
    rintro i s hi st ⟨c, hc, hS⟩ hR
    obtain rfl : i = m := by omega
    refine codeAny_builtin (F.entry_set_update_loop) ?_
    rw [Around.under_plainId (F.plain_set_update_loop) _]
    show wpAny _ A.in1 (pyNext (Value.ref I) >>= _) _ _ s
    refine wpAny_bind (W.done s _ _ st fun s2 mv => ?_)
    show wpAny _ A.in1 (ret .none) _ _ s2
    rw [List.take_of_length_le (by omega)] at hS
    exact wpAny_pure (hR s2 c (mv.mono more) hc (hS.keep fun o e => mv.heap T o Tw e))
  | succ j ih =>
    rintro i s hi st ⟨c, hc, hS⟩ hR
    have lt : i < m := by omega
    refine codeAny_builtin (F.entry_set_update_loop) ?_
    rw [Around.under_plainId (F.plain_set_update_loop) _]
    show wpAny _ A.in1 (pyNext (Value.ref I) >>= _) _ _ s
    refine wpAny_bind (W.item i s _ _ lt st fun v s2 hP st2 mv => ?_)
    obtain ⟨k, hx, kx, sc⟩ := item i v hP
    have hS2 : SetX knd key s2.heap T (fun z => decide (z ∈ xs.take i)) c := hS.keep fun o e => mv.heap T o Tw e
    show wpAny _ A.in1 (holding [v] (setAdd T v) >>= _) _ _ s2
    refine wpAny_bind (wpAny_holding ?_)
    unfold setAdd
    refine wpAny_holding (wpAny_bind (knd.pyHash kx ?_))
    refine add_hashed (s := { s2 with toks := s2.toks + 1 }) hk kx sc hS2 (by omega) fun h2 sb hS3 => ?_
    have hS4 : SetX knd key h2 T (fun z => decide (z ∈ xs.take (i + 1))) (if decide (k ∈ xs.take i) = true then c else c + 1) := hS3.ext fun z => by
      rw [List.take_add_one, hx]
      simp
    have hc4 : (if decide (k ∈ xs.take i) = true then c else c + 1) ≤ i + 1 := by split <;> omega
    refine wpAny_pure ⟨plainId_quiet (F.plain_set_update_loop) _, ih (i + 1) _ (by omega) ?_ ⟨_, hc4, hS4⟩ fun s3 c3 mv3 hc3 hS5 => ?_⟩
    · refine W.frame _ s2 _ _ st2 (Nat.le_succ _) fun b hb' o e => ?_
      rw [sb.2 b fun q => hT (by rw [← q]; exact hb')]
      exact e
    · refine hR s3 c3 (Moved.trans W.gtrans ((mv.mono more).then_heap (Nat.le_succ _) fun b o hb' e => ?_) mv3) hc3 hS5
      rw [sb.2 b fun q => hb' (by rw [q]; exact List.mem_cons_self)]
      exact e
/-- the new set's object -/
def raw (w : World) : Obj := { cls := .type "set", dict := none, data := .set #[] 0 (.fresh 0 0 (!w.params.followText "set-order")) }
theorem raw_set {h : Heap} {xs : List κ} (ho : h.get? a = some (raw w)) : SetX knd key h a (fun z => decide (z ∈ xs.take 0)) 0 := by
  refine ⟨_, #[], 0, _, ho, ⟨rfl, rfl, rfl⟩, rfl, rfl, ⟨fun e he => by simp at he, by simp [ks], fun k => by simp [ks], by decide, by rfl, List.Pairwise.nil, ?_⟩⟩
  show _ ∨ (!w.params.followText "set-order") = true
  cases w.params.followText "set-order" with
  | true => exact .inl rfl
  | false => exact .inr rfl
theorem set_list (hk : ∀ k v, knd.is k v = true → key v = k) {l : Addr} {items : Array Value} (xs : List κ) {Q : Value → Shared → Prop} (hh : A.handled = none) (hl : s.heap.IsList l items) (hz : items.size = xs.length) (item : ∀ (i : Nat) v, items[i]? = some v → ∃ k, xs[i]? = some k ∧ knd.is k v = true ∧ v.scannable = true) (hb : xs.length + 1 < scanBound)
    (hQ : ∀ (h2 : Heap) (tk c : Nat), SetX knd key h2 s.heap.objs.size (fun z => decide (z ∈ xs)) c → c ≤ xs.length → (∀ b o, s.heap.get? b = some o → h2.get? b = some o) → Q (.ref s.heap.objs.size) { s with heap := h2, toks := tk }) :
    wpAny (model P w) A (call (.type "set") [.ref l]) Q E s := by
  obtain ⟨c0, tl, mro⟩ := F.called_set.mro
  have f1 := F.called_set.made
  have f2 := F.called_set.sub
  refine wpAny_call (codeAny_of_tree ?_)
  show wpAny _ _ (callAny (Value.type "set") _) _ _ _
  refine wpAny_pure ⟨Code.quiet_builtin _ (by decide +kernel), codeAny_builtin PySem.F.entry_type_call ?_⟩
  rw [Around.under_plain (weight_type_call_type "set" [Value.ref l] []) rfl]
  have f3 := F.called_set.notType
  have f4 := F.called_set.canCreate
  have f5 := F.typeCall_set_1 (.ref l)
  repeat any_goals first | assumption | wp_step
  refine codeAny_mono (code_set_led1 (.ref l) (E := E) (Q₁ := fun v s1 => v = .ref s.heap.objs.size ∧ s1 = { s with heap := s.heap.push (raw w) }) ⟨rfl, rfl⟩) fun r s1 hr => ?_
  cases r with
  | error e => exact hr
  | ok fl =>
  cases fl with
  | next | brk | cont => exact hr.elim
  | ret v =>
  obtain ⟨rfl, rfl⟩ := hr
  have hS : (s.heap.push (raw w)).get? s.heap.objs.size = some (raw w) := Heap.get?_push_size _ rfl
  have hT : Shared.TypeIs { s with heap := s.heap.push (raw w) } (.ref s.heap.objs.size) "set" := ⟨_, hS, rfl⟩
  have f6 := F.called_set.init.lookup
  have f7 := F.called_set.init.bind (.ref s.heap.objs.size)
  repeat any_goals first | assumption | wp_step
  refine codeAny_mono (codeAny_call_builtin (R := wants (fun r s2 => r = .none ∧ ∃ h2 tk c, s2 = { s with heap := h2, toks := tk } ∧ SetX knd key h2 s.heap.objs.size (fun z => decide (z ∈ xs)) c ∧ c ≤ xs.length ∧ ∀ b o, s.heap.get? b = some o → h2.get? b = some o) E)
    F.called_set.init.plain F.entry_set_init (check_set_init_1 hT ?_)) fun r2 s2 hr2 => ?_
  · obtain ⟨⟨lc, ld, ldt, lsl⟩, lo, e1, nl, e2⟩ := hl
    simp only at e1 e2
    subst e1 e2
    have lo' : (s.heap.push (raw w)).get? l = some { cls := .type "list", dict := ld, data := .seq items nl, slots := lsl } := Heap.get?_push_of_some _ lo
    have g1 := F.sub_list_set
    have g2 := F.sub_list_frozenset
    have g3 : (Value.type "list" == Value.type "dict") = false := by decide
    have hl1 : (s.heap.push (raw w)).IsList l items := ⟨_, lo', rfl, nl, rfl⟩
    unfold Builtin.«set.__init__» noKeywords Builtin.Frozenset.updateFrom
    generalize hI : pyIter = PI
    wp_walk
    subst hI
    refine wpAny_pyIter_list hl1 (wpAny_bind (wpAny_runValue ?_))
    have lS : l < s.heap.objs.size := Heap.lt_size lo
    have h3 : A.in1.in1.in1.handled = none := by simp [hh]
    have nI : l ≠ (s.heap.push (raw w)).objs.size := by rw [Heap.size_push]; exact Nat.ne_of_lt (Nat.lt_succ_of_lt lS)
    have nT : s.heap.objs.size ∉ [(s.heap.push (raw w)).objs.size, l] := by
      rw [Heap.size_push]
      simp only [List.mem_cons, List.not_mem_nil, or_false, not_or]
      exact ⟨Nat.ne_of_lt (Nat.lt_succ_self _), fun q => Nat.lt_irrefl _ (q ▸ lS)⟩
    refine upd_loop hk ((Walks.list h3 _ l nI items).toS) s.heap.objs.size nT xs hz (by omega) item items.size 0 _ (by omega) ⟨⟨_, Heap.get?_push_size _ rfl, rfl, rfl⟩, hl1.push _⟩ ⟨0, Nat.le_refl 0, raw_set ?_⟩ fun s3 c3 mv hc3 hS3 => ?_
    · exact Heap.get?_push_of_some _ hS
    · obtain ⟨h3', g3', d3, tk3, os3⟩ := s3
      obtain rfl : g3' = s.gens := mv.gens
      obtain rfl : d3 = s.drawn := mv.drawn
      obtain rfl : os3 = s.os := mv.os
      show wpAny _ _ _ _ _ _
      refine wpAny_pure ?_
      show wpAny _ _ (ret .none) _ _ _
      rw [hz] at hc3
      refine wpAny_pure ⟨rfl, h3', tk3, c3, rfl, hS3, hc3, fun b o e => ?_⟩
      have b0 : b < s.heap.objs.size := Heap.lt_size e
      refine mv.heap b o ?_ (Heap.get?_push_of_some _ (Heap.get?_push_of_some _ e))
      rw [Heap.size_push]
      simp only [List.mem_cons, List.not_mem_nil, or_false, not_or]
      exact ⟨Nat.ne_of_lt b0, Nat.ne_of_lt (Nat.lt_succ_of_lt b0)⟩
  · cases r2 with
    | error e => exact hr2
    | ok fl2 =>
    cases fl2 with
    | next | brk | cont => exact hr2.elim
    | ret r =>
    obtain ⟨rfl, h2, tk, c2, rfl, hS2, hc2, keep⟩ := hr2
    repeat any_goals first | assumption | wp_step
    exact hQ _ _ _ hS2 hc2 keep
end
end XG

namespace XG
open PySem PySem.Spec PyProof.Rows L2
/-! ### sorted(set(xs)), xs a list of texts -/
def keyS : Value → Str
  | .str x _ => x
  | _ => ""
theorem keyS_is (P : Program) (w : World) : ∀ k v, (PySem.strKind P w).is k v = true → keyS v = k := fun k v h => by
  obtain ⟨t, rfl⟩ := Value.isStrOf_shape h
  rfl
theorem strs_or : ∀ (l : List Value), (∀ v ∈ l, ∃ x t, v = Value.str x t) → StrsAre l (l.map keyS)
  | [], _ => .nil
  | v :: l, h => by
    obtain ⟨x, t, rfl⟩ := h _ List.mem_cons_self
    exact .cons x t (strs_or l fun u hu => h u (List.mem_cons_of_mem _ hu))
section
variable {P : Program} {w : World} {A : Around} {E : Value → Shared → Prop} {s : Shared} {a : Addr} {S : Str → Bool} {n : Nat}
theorem sorted_texts {Q : Value → Shared → Prop} (R : SetX (PySem.strKind P w) keyS s.heap a S n) (hh : A.handled = none) (h64 : n < 64)
    (hQ : ∀ s2 p (out : Array Value) (c : Nat) (ys : List Str), (∀ b o, s.heap.get? b = some o → s2.heap.get? b = some o) → s2.gens = s.gens → s2.os = s.os → s.heap.objs.size ≤ p → s2.heap.get? p = some (seqObj "list" out c) →
      StrsAre out.toList ys → sortedS ys = true → ys.Nodup → (∀ k, k ∈ ys ↔ S k = true) → ys.length = n → Q (.ref p) s2) : wpAny (model P w) A (call (.builtin "sorted") [.ref a]) Q E s := by
  obtain ⟨o, es, ep, t, ho, hx, hd, hn, D⟩ := R
  refine Calls.call_function_entry (kind_sorted) (plain_sorted) (entry_sorted) (args_sorted1 _) ?_
  unfold Builtin.«sorted»
  refine wpAny_bind (m := checkCount "sorted" 1 1 _) (wpAny_pure (wpAny_bind (collect_set (A := A.in1) hh ⟨o, ho, hx.1, hd⟩ D.fit D.few D.ris D.led fun s1 vs k1 z1 g1 o1 pm => ?_)))
  have vl : vs.length = n := by rw [pm.length_eq, List.length_map, Array.length_toList]; exact hn
  have all : ∀ v ∈ vs, ∃ x tk, v = Value.str x tk := fun v hv => by
    obtain ⟨e, he, rfl⟩ := List.mem_map.mp (pm.mem_iff.mp hv)
    obtain ⟨⟨k, h1, _⟩, _⟩ := D.el e he
    obtain ⟨tk, q⟩ := Value.isStrOf_shape h1
    exact ⟨k, tk, q⟩
  have hI := strs_or vs all
  have pk : (vs.map keyS).Perm (ks keyS es.toList) := by
    have q := pm.map keyS
    rw [List.map_map] at q
    exact q
  refine wpAny_bind (wpAny_newList ?_ (by rw [vl, sizeLine_eq]; omega))
  have oL : (s1.heap.push (seqObj "list" vs.toArray 0)).get? s1.heap.objs.size = some (seqObj "list" vs.toArray 0) := Heap.get?_push_size _ rfl
  refine wpAny_bind (wpAny_holding (wpAny_call_entry slot_list_sort ⟨_, oL, rfl⟩ entry_list_sort
    (list_sort_treeK strKind_oneLt oL hI.keysOf (fun v1 v2 r e => keyKind_strs (by rw [← e]; exact hI)) (by rw [vl]; exact h64) fun st pe so => ⟨_, rfl, ?_⟩) (args_list_sort _)))
  obtain ⟨ys, a1, a2, a3⟩ := sorted_out_str hI pe so
  obtain ⟨c, hc⟩ := sortedHeap_at (vs := vs) (out := (arrOf st).map (·.2)) oL
  have pn := a2.trans pk
  refine wpAny_pure ⟨_, rfl, hQ _ s1.heap.objs.size _ c ys (fun b u e => ?_) g1 o1 z1 hc a1 a3 (pn.nodup_iff.mpr D.nd) (fun k => by rw [pn.mem_iff, ← D.mem k]) ?_⟩
  · have q := k1 b u e
    have lt := Heap.lt_size q
    show (sortedHeap (s1.heap.push (seqObj "list" vs.toArray 0)) s1.heap.objs.size vs _).get? b = some u
    rw [sortedHeap_old (Nat.ne_of_lt lt) (by rw [size_push']; exact Nat.lt_succ_of_lt lt)]
    exact Heap.get?_push_of_some _ q
  · have : (ks keyS es.toList).length = n := by unfold ks; rw [List.length_map, Array.length_toList]; exact hn
    rw [pn.length_eq, this]
end
/-- the set of texts at a -/
def SetSO (P : Program) (w : World) (a : Addr) (S : Str → Bool) (n : Nat) : HO := .ext fun h => SetX (PySem.strKind P w) keyS h a S n
section
variable {X : Cx} {A : Around}
theorem setSO_new {w : World} {P : Program} {H : Hp} {h : Heap} {a : Addr} {S : Str → Bool} {n : Nat} (R : SetX (PySem.strKind P w) keyS h a S n) : ObjOk P w H h a (SetSO P w a S n) := by
  have ⟨o, _, _, _, ho, _⟩ := R
  exact ⟨R, ⟨o, ho⟩, fun _ _ p k => SetX.keep p k⟩
/-- set(xs) -/
def rSetS (P : Program) (w : World) (K : PySem.W.Frag) : List V → Hp → VK → Prop := fun vs H Q => ∃ (l : Addr) (xs : List Str), vs = [.ref l] ∧ SqL K H l (xs.map V.str) ∧ xs.length ≤ 1000 ∧ ∀ p c, H p = none → c ≤ xs.length → Q (.ref p) (upd H p (SetSO P w p (fun z => decide (z ∈ xs)) c))
theorem cr_setS (P : Program) (w : World) (K : PySem.W.Frag) (hc : X.calm = true) (hP : X.prog = P := by rfl) (hw : X.w = w := by rfl) (hK : X.K = K := by rfl) : CallR X (.type "set") (rSetS P w K) := by
  subst hK hP hw
  intro pins s σ H vs us Q I r h
  obtain ⟨l, xs, rfl, hs, hz, q⟩ := h
  rw [Vals.ref1 r]
  obtain ⟨its, rv, hl, _⟩ := I.list hs
  have il : its.length = xs.length := by have := rv.length; rw [List.length_map] at this; exact this.symm
  have sb : (1001 : Nat) < scanBound := by decide
  refine set_list (knd := PySem.strKind X.prog X.w) (key := keyS) (keyS_is _ _) xs (I.ok.hd hc) hl.isList (by rw [List.size_toArray, il]) (fun i v hv => ?_) (by omega) fun h2 tk c R hc2 kp => ?_
  · have hi : i < xs.length := by rw [← il]; simpa using (Array.getElem?_eq_some_iff.mp hv).1
    obtain ⟨u, hu, t, hu2⟩ := rv.get (i := i) (x := .str xs[i]) (by rw [List.getElem?_map, List.getElem?_eq_getElem hi]; rfl)
    have : v = u := by
      rw [List.getElem?_toArray] at hv
      rw [hv] at hu
      exact Option.some.inj hu
    subst this hu2
    exact ⟨xs[i], List.getElem?_eq_getElem hi, strKind_is _ _ _ _, rfl⟩
  · have fr : H s.heap.objs.size = none := I.hok.fresh (Nat.le_refl _)
    exact ⟨.ref _, upd H s.heap.objs.size (SetSO X.prog X.w s.heap.objs.size (fun z => decide (z ∈ xs)) c), I.laid (t' := tk) (fun b u e => kp b u e) (Nat.le_refl _) (setSO_new R), rfl, q _ _ fr hc2⟩
/-- sorted of it -/
def rSrtS (P : Program) (w : World) : List V → Hp → VK → Prop := fun vs H Q => ∃ (a : Addr) (S : Str → Bool) (n : Nat), vs = [.ref a] ∧ H a = some (SetSO P w a S n) ∧ n < 64 ∧
  ∀ (ys : List Str) (p : Addr), sortedS ys = true → ys.Nodup → (∀ k, k ∈ ys ↔ S k = true) → ys.length = n → H p = none → Q (.ref p) (upd H p (.lst (ys.map V.str)))
theorem cr_srtS (P : Program) (w : World) (hc : X.calm = true) (hP : X.prog = P := by rfl) (hw : X.w = w := by rfl) : CallR X (.builtin "sorted") (rSrtS P w) := by
  subst hP hw
  intro pins s σ H vs us Q I r h
  obtain ⟨a, S, n, rfl, ha, h64, q⟩ := h
  have R : SetX (PySem.strKind X.prog X.w) keyS s.heap a S n := (I.hok a _ ha).1
  rw [Vals.ref1 r]
  refine sorted_texts R (I.ok.hd hc) h64 fun s2 p out c ys k g o hp hg hi hs nd hm hl => ?_
  have len : (ys.map V.str).length ≤ sizeLine := by rw [List.length_map, hl, sizeLine_eq]; omega
  have fr : H p = none := I.hok.fresh hp
  obtain ⟨h2, g2, d2, t2, o2⟩ := s2
  simp only at g o
  subst g o
  exact ⟨.ref p, upd H p (.lst (ys.map V.str)), I.call (t' := t2) (ch := []) (Un.laid k hp fr) (I.hok.laid k hp ⟨len, out.toList, c, vals_of_strs hi, hg⟩) I.bare (fun _ z => nomatch z), rfl, q ys p hs nd hm hl fr⟩
end
end XG

namespace XS
open PySem PySem.Spec PyProof.Rows L2
/-! ### statements with other sums -/
mutual
def mapS (f : Sm → Sm) : Stm → Stm
  | .above s => .above (f s)
  | .nought s => .nought (f s)
  | .goes m s => .goes m (f s)
  | .neg a => .neg (mapS f a)
  | .con o l => .con o (mapSs f l)
  | .bnd o x a => .bnd o x (mapS f a)
def mapSs (f : Sm → Sm) : List Stm → List Stm
  | [] => []
  | a :: l => mapS f a :: mapSs f l
end
theorem mapSs_map (f : Sm → Sm) : ∀ l, mapSs f l = l.map (mapS f)
  | [] => rfl
  | a :: l => by rw [List.map_cons, ← mapSs_map f l]; rfl
theorem mapS_con (f : Sm → Sm) (o : Bool) (l : List Stm) : mapS f (.con o l) = .con o (l.map (mapS f)) := by
  show Stm.con o (mapSs f l) = _
  rw [mapSs_map]
theorem mapS_end {f : Sm → Sm} {a : Stm} (e : isEnd a = true) : mapS f a = mapS (fun _ => f (sumOf a)) a := by
  cases a <;> first | rfl | cases e
/-- an end's tuple: what stands ahead of its sum, the sum; with another sum in its place -/
theorem end_tup {K : PySem.W.Frag} {H : Hp} {v : V} {a : Stm} (e : isEnd a = true) (h : Dp K H v (toD a)) : ∃ p hd u, v = .ref p ∧ SqT K H p (hd ++ [u]) ∧ hd.length ≤ 2 ∧ hd ≠ [] ∧ Dp K H u (sumD (sumOf a)) ∧
    ∀ (s : Sm) (t : Addr) (H' : Hp) (u' : V), SqT K H' t (hd ++ [u']) → Dp K H' u' (sumD s) → Dp K H' (.ref t) (toD (mapS (fun _ => s) a)) := by
  cases a with
  | neg c | con o l | bnd o y c => cases e
  | above s | nought s =>
    obtain ⟨p, u, us, rfl, h1, h2, h3⟩ := Dp.one1 h
    cases h2
    cases h3 with
    | cons g1 g2 =>
    cases g2
    exact ⟨p, [.str _], _, rfl, h1, by simp, by simp, g1, fun s t H' u' a1 a2 => .tup a1 (.cons (.str _) (.one a2))⟩
  | goes m s =>
    obtain ⟨p, u, us, rfl, h1, h2, h3⟩ := Dp.one1 h
    cases h2
    cases h3 with
    | cons g1 g2 =>
    cases g1
    cases g2 with
    | cons g3 g4 =>
    cases g4
    exact ⟨p, [.str _, .int _], _, rfl, h1, by simp, by simp, g3, fun s t H' u' a1 a2 => .tup a1 (.cons (.str _) (.cons (.int _) (.one a2)))⟩
theorem sIx_last {n : Nat} (h : 0 < n) : HT.sIx n n (some (-1)) = n - 1 := by
  unfold HT.sIx
  simp only
  rw [if_pos (by decide)]
  omega
section
variable {K : PySem.W.Frag} {H : Hp} {Q : VK} {p : Addr} {hd : List V} {u : V}
/-- t[:-1] -/
theorem x_cutLast (h : SqT K H p (hd ++ [u])) (q : ∀ t H', Same H H' → H' t = some (.tup hd) → Q (.ref t) H') : rSlA K (.ref p) none (some (-1)) H Q := by
  have hl : (hd ++ [u]).length = hd.length + 1 := by rw [List.length_append]; rfl
  refine ⟨p, hd ++ [u], rfl, h, fun ⟨_, c⟩ => ?_, fun _ t ht => ?_⟩
  · rw [sIx_last (by omega)] at c
    omega
  · have e : cutV (hd ++ [u]) none (some (-1)) = hd := by
      unfold cutV
      rw [sIx_last (by omega), HT.sIx_none, List.drop_zero, Nat.sub_zero, hl, Nat.add_sub_cancel, List.take_left']
      rfl
    rw [e]
    exact q t _ (same_upd ht) upd_same
theorem atI_last : atI (hd ++ [u]) (-1) = some u := by
  have hl : (hd ++ [u]).length = hd.length + 1 := by rw [List.length_append]; rfl
  have e : ixN (hd ++ [u]).length (-1) = some hd.length := by
    rw [hl]
    unfold ixN
    rw [if_neg (by decide), if_pos (by omega)]
    congr 1
    omega
  unfold atI
  rw [e]
  simp
end
/-! ### data of statements, for the law's own look -/
theorem Al.up {n : Nat} {d : PyData} (h : Al n d) : ∀ {m : Nat}, n ≤ m → Al m d := by
  induction h with
  | int i => exact fun _ => .int i
  | str x => exact fun _ => .str x
  | tru => exact fun _ => .tru
  | non => exact fun _ => .non
  | tup _ hl ih =>
    intro m hm
    obtain ⟨j, rfl⟩ : ∃ j, m = j + 1 := ⟨m - 1, by omega⟩
    exact .tup (fun d hd => ih d hd (by omega)) hl
  | lst _ hl ih =>
    intro m hm
    obtain ⟨j, rfl⟩ : ∃ j, m = j + 1 := ⟨m - 1, by omega⟩
    exact .lst (fun d hd => ih d hd (by omega)) hl
theorem al_two {n : Nat} {a b : PyData} (h1 : Al n a) (h2 : Al n b) : Al (n + 1) (.tuple [a, b]) := .tup (fun d hd => by
  rcases List.mem_cons.mp hd with rfl | hd
  · exact h1
  · rw [List.mem_singleton.mp hd]; exact h2) (by simp)
theorem al_three {n : Nat} {a b c : PyData} (h1 : Al n a) (h2 : Al n b) (h3 : Al n c) : Al (n + 1) (.tuple [a, b, c]) := .tup (fun d hd => by
  rcases List.mem_cons.mp hd with rfl | hd
  · exact h1
  rcases List.mem_cons.mp hd with rfl | hd
  · exact h2
  · rw [List.mem_singleton.mp hd]; exact h3) (by simp)
theorem al_toD {p : Sm → Prop} (hp : ∀ s, p s → s.2.length ≤ 1000) {a : Stm} (e : Ev p a) : Al (2 * dep a + 2) (toD a) := by
  induction e with
  | above h => exact al_two (.str _) (al_sum (n := 0) (hp _ h))
  | nought h => exact al_two (.str _) (al_sum (n := 0) (hp _ h))
  | goes h _ => exact al_three (.str _) (.int _) (al_sum (n := 0) (hp _ h))
  | @neg c _ ih =>
    have e : 2 * dep (Stm.neg c) + 2 = (2 * dep c + 3) + 1 := by show 2 * (dep c + 1) + 2 = _; omega
    rw [e]
    exact al_two (.str _) (ih.up (by omega))
  | @bnd o x c _ ih =>
    have e : 2 * dep (Stm.bnd o x c) + 2 = (2 * dep c + 3) + 1 := by show 2 * (dep c + 1) + 2 = _; omega
    rw [e]
    exact al_three (.str _) (.str _) (ih.up (by omega))
  | @con o l _ hl ih =>
    have e : 2 * dep (Stm.con o l) + 2 = (2 * deps l + 2 + 1) + 1 := by show 2 * (deps l + 1) + 2 = _; omega
    rw [e]
    refine al_two (.str _) ?_
    rw [toDs_map]
    refine .tup (fun d hd => ?_) (by rw [List.length_map]; omega)
    obtain ⟨c, hc, rfl⟩ := List.mem_map.mp hd
    exact (ih c hc).up (by have := dep_in hc; omega)
theorem dep_mapS (f : Sm → Sm) : ∀ (n : Nat) (a : Stm), dep a ≤ n → dep (mapS f a) = dep a
  | 0, a, h => by have := dep_pos a; omega
  | n + 1, a, h => by
    cases a with
    | above _ | nought _ | goes _ _ => rfl
    | neg c =>
      show dep (mapS f c) + 1 = dep c + 1
      rw [dep_mapS f n c (Nat.le_of_succ_le_succ h)]
    | bnd o x c =>
      show dep (mapS f c) + 1 = dep c + 1
      rw [dep_mapS f n c (Nat.le_of_succ_le_succ h)]
    | con o l =>
      show deps (mapSs f l) + 1 = deps l + 1
      rw [mapSs_map]
      have key : ∀ r : List Stm, (∀ c ∈ r, dep c ≤ n) → deps (r.map (mapS f)) = deps r := by
        intro r
        induction r with
        | nil => intro _; rfl
        | cons c r ih =>
          intro hr
          show max (dep (mapS f c)) (deps (r.map (mapS f))) = max (dep c) (deps r)
          rw [ih fun d hd => hr d (List.mem_cons_of_mem _ hd), dep_mapS f n c (hr c (List.mem_cons_self ..))]
      rw [key l fun c hc => Nat.le_trans (dep_in hc) (Nat.le_of_succ_le_succ h)]
theorem Ev.map {p q : Sm → Prop} {f : Sm → Sm} (h : ∀ s, p s → q (f s)) {a : Stm} (e : Ev p a) : Ev q (mapS f a) := by
  induction e with
  | above x => exact .above (h _ x)
  | nought x => exact .nought (h _ x)
  | goes x y => exact .goes (h _ x) y
  | neg _ ih => exact .neg ih
  | bnd _ ih => exact .bnd ih
  | con _ hl ih =>
    rw [mapS_con]
    refine .con (fun c hc => ?_) (by rw [List.length_map]; exact hl)
    obtain ⟨b, hb, rfl⟩ := List.mem_map.mp hc
    exact ih b hb
/-! ### promises of put -/
/-- sums into which o may be put -/
def PutOk (o s : Sm) : Prop := (s.2.map (·.1)).Nodup ∧ s.2.length + o.2.length < 64 ∧ SmlS s
def sp_put_within (n : Nat) (K : PySem.W.Frag) : Sp := fun vs H Q _ => ∃ (v u : V) (x : Str) (a : Stm) (o : Sm), vs = [v, .str x, u] ∧ Dp K H v (toD a) ∧ Dp K H u (sumD o) ∧ SmlS o ∧ plainB a = true ∧ Ev (PutOk o) a ∧ dep a ≤ n ∧
  ∀ t H', Same H H' → Dp K H' (.ref t) (toD (mapS (fun s => putS s x o) a)) → Q (.ref t) H'
def sp_put (K : PySem.W.Frag) (NP : Addr) : Sp := fun vs H Q E => ∃ (v u : V) (x : Str) (a : Stm) (o : Sm), vs = [v, .str x, u] ∧ Dp K H v (toD a) ∧ Dp K H u (sumD o) ∧ SmlS o ∧ Ev (PutOk o) a ∧ dep a ≤ 60 ∧
  (plainB a = true → ∀ t H', Same H H' → Dp K H' (.ref t) (toD (mapS (fun s => putS s x o) a)) → Q (.ref t) H') ∧ (plainB a = false → ∀ H', Same H H' → E (.ref NP) none H')
def sp_sum_put (P : Program) (w : World) (K : PySem.W.Frag) : Sp := fun vs H Q _ => ∃ (v u : V) (x : Str) (s o : Sm), vs = [v, .str x, u] ∧ Dp K H v (sumD s) ∧ Dp K H u (sumD o) ∧ SmlS o ∧ PutOk o s ∧ (o.2.map (·.1)).Nodup ∧
  ∀ t H', Same H H' → Dp K H' (.ref t) (sumD (putS s x o)) → Q (.ref t) H'
def sp_lput (n : Nat) (K : PySem.W.Frag) : Sp := fun vs H Q _ => ∃ (v u : V) (x : Str) (a : Stm) (o : Sm), vs = [v, .str x, u] ∧ Dp K H v (toD a) ∧ Dp K H u (sumD o) ∧ SmlS o ∧ (o.2.map (·.1)).Nodup ∧ plainB a = true ∧ Ev (PutOk o) a ∧ dep a ≤ n ∧
  ∀ t H', Same H H' → Dp K H' (.ref t) (toD (mapS (fun s => putS s x o) a)) → Q (.ref t) H'
def sp_refused5 (K : PySem.W.Frag) : Sp := fun vs H Q _ => ∃ (v u : V) (x : Str) (a : Stm) (o : Sm), vs = [v, .str x, u] ∧ Dp K H v (toD a) ∧ Dp K H u (sumD o) ∧ SmlS o ∧ plainB a = false ∧ Ev (PutOk o) a ∧ dep a ≤ 60 ∧ ∀ H', Same H H' → Q (.str "not plain") H'
theorem kept_is {ps : List Pr} {f : Str → Int} {ys : List Str} (n : Norm ps) (r : Rising ys) (h : ∀ x, shr ps x = f x) (hf : ∀ x, x ∉ ys → f x = 0) : kept ys f = ps :=
  norm_ext (kept_norm r) n fun x => by rw [kept_shr r hf, h]
theorem putS_norm (s : Sm) (x : Str) (o : Sm) : Norm (putS s x o).2 := nrm_norm _
theorem shr_sml {s : Sm} (nd : (s.2.map (·.1)).Nodup) (h : SmlS s) (x : Str) : Sml (shr s.2 x) := by
  by_cases c : x ∈ s.2.map (·.1)
  · obtain ⟨p, hp, rfl⟩ := List.mem_map.mp c
    rw [shr_at nd hp]
    exact h.2 p hp
  · rw [shr_out c]
    exact sml_small (by decide)
end XS

namespace XJ
open PySem PySem.SeqAt
open AutoSeq1 (wpAny_loadPart')
open MeetsSeq MeetsSeq2 MeetsSeq3 SeqRoads2
/-- xs.extend(t), t a tuple -/
theorem ext_tup (l : Addr) (its : Array Value) (n : Nat) (b : Addr) (its2 : Array Value) (n2 : Nat) (dd2 : Option Addr) (sl2 : Array (Option Value)) (h0 : ¬(!its.isEmpty && Builtin.List.listTooLong (its.size + its2.size)) = true) (h1 : its.size ≤ sizeLine) (h2 : its.size + its2.size ≤ sizeLine + 1) :
    Meets (Builtin.«list.extend» ⟨[.ref l, .ref b], []⟩) (fun _ R s => s.heap.get? l = some { cls := .type "list", dict := none, data := .seq its n, slots := #[] } ∧ s.heap.get? b = some { cls := .type "tuple", dict := dd2, data := .seq its2 n2, slots := sl2 } ∧ R (.ok (.ret Value.none)) { s with heap := s.heap.update l (Obj.mapSeq fun x => x ++ its2) }) :=
  .of_wp fun prog w A R s h => by
    obtain ⟨hp, g, d, tk, os⟩ := s
    obtain ⟨hl, hb, h⟩ := h
    have f1 := AutoSeq1.idx_int
    have f2 := AutoSeq1.sub_tuple_tuple
    have f3 := AutoSeq1.sub_list_list
    have f4 := AutoSeq1.sub_tuple_list
    have f5 := AutoSeq1.sub_list_tuple
    have z : (its ++ its2).size ≤ sizeLine + 1 := by rw [Array.size_append]; exact h2
    (wp_walk using (wpAny_updateSeq hl rfl (hz := h1) (_hz' := z)), wpAny_loadPart' hl, wpAny_loadPart' hb); exact ⟨_, rfl, h⟩
end XJ
namespace XS
open PySem PySem.Spec PyProof.Rows L2
section
variable {X : Cx}
def rExtT (K : PySem.W.Frag) : V → List V → Hp → VK → Prop := fun x vs H Q => ∃ l b xs zs, x = .ref l ∧ vs = [.ref b] ∧ H l = some (.lst xs) ∧ SqT K H b zs ∧ xs.length + zs.length ≤ sizeLine ∧ Q .non (upd H l (.lst (xs ++ zs)))
theorem mt_extT (K : PySem.W.Frag) (hK : X.K = K := by rfl) : MtM X "list.extend" (rExtT K) := by
  subst hK
  intro pins s σ H x vs v us Q I rx rv h
  obtain ⟨l, b, xs, zs, rfl, rfl, hH, hB, hz, q⟩ := h
  cases rx
  obtain ⟨u, rfl, ru⟩ := rv.one
  cases ru
  obtain ⟨z, its, n, r, hl, e⟩ := I.lstM hH
  obtain ⟨its2, r2, ⟨⟨cl2, dd2, dt2, sl2⟩, e2, c2, n2, d2⟩, z2⟩ := I.tuple hB
  simp only at c2 d2
  subst c2 d2
  have l1 := r.length
  have l2 := r2.length
  have sum : its.toArray.size + its2.toArray.size ≤ sizeLine := by rw [List.size_toArray, List.size_toArray]; omega
  have long : ¬ (!its.toArray.isEmpty && Builtin.List.listTooLong (its.toArray.size + its2.toArray.size)) = true := by
    rw [notLongL sum, Bool.and_false]
    exact Bool.false_ne_true
  refine call_meets F.slot_list_extend ⟨_, e, rfl⟩ F.entry_list_extend (F.args_list_extend_2 _ _) (XJ.ext_tup l its.toArray n b its2.toArray n2 dd2 sl2 long (by rw [List.size_toArray]; omega) (by omega)) ⟨e, e2, ?_⟩
  refine ⟨.non, _, I.lset (its' := its ++ its2) hH e (by simp) (r.append r2) ?_, rfl, q⟩
  rw [List.length_append]
  omega
/-- for x in xs, xs a list or a tuple -/
def iSeqB (K : PySem.W.Frag) (tl : TE) : TI := fun σ H R => tl σ H fun x H1 => ∃ a, x = .ref a ∧ (((∃ xs, SqL K H1 a xs) ∧ R (Itl K a) H1) ∨ ((∃ xs, SqT K H1 a xs) ∧ R (Itt K a) H1))
theorem pi_seqB {tg l : Expr} {tl : TE} (K : PySem.W.Frag) (hl : PE X l tl) (hK : X.K = K := by rfl) : PI X tg l (iSeqB K tl) := by
  subst hK
  refine ⟨fun pins s σ H R I h => ?_⟩
  refine thn (hl.run pins s σ H _ I h) fun v s1 ⟨x, H1, I1, r1, a, e, q⟩ => ?_
  subst e
  cases r1
  have fresh : ∀ b ∈ [s1.heap.objs.size], FpOk X pins H1 b := fun b hb => by
    obtain rfl : b = s1.heap.objs.size := by simpa using hb
    exact I1.fpOk (Nat.le_refl _) (I1.hok.fresh (Nat.le_refl _))
  rcases q with ⟨⟨xs, hq⟩, q⟩ | ⟨⟨xs, hq⟩, q⟩
  · obtain ⟨its, rv, p, hz⟩ := I1.list hq
    exact wpAny_pyIter_list p.isList ⟨s1.heap.objs.size, [s1.heap.objs.size], _, _, H1, rfl, I1.kept (t' := s1.toks) fun b o e => Heap.get?_push_of_some _ e, turn_list a _, ⟨_, Heap.get?_push_size _ rfl, rfl, rfl⟩, fresh, q⟩
  · obtain ⟨its, rv, p, hz⟩ := I1.tuple hq
    exact wpAny_pyIter_tuple (show s1.heap.IsTuple a its.toArray from p) ⟨s1.heap.objs.size, [s1.heap.objs.size], _, _, H1, rfl, I1.kept (t' := s1.toks) fun b o e => Heap.get?_push_of_some _ e, turn_tuple a _, ⟨_, Heap.get?_push_size _ rfl, rfl, rfl⟩, fresh, q⟩
/-! ### a written dict of the module: k in d -/
def KHas (K : PySem.W.Frag) (w : World) (a : Addr) (x : Str) (b : Bool) : Prop :=
  ∃ es n r, K.lookup a = some ⟨.type "dict", none, .dict es n, #[]⟩ ∧ PySem.W.KeysLit w.params es.toList ∧ (a == sysModules) = false ∧ PySem.W.nsIn K a x = some r ∧ r.isSome = b
def rKIn (K : PySem.W.Frag) (w : World) (neg : Bool) : R2 := fun x y H Q => ∃ (p : Addr) (z : Str) (b : Bool), x = .str z ∧ y = .ref p ∧ KHas K w p z b ∧ Q (.bl (if neg then !b else b)) H
theorem op_kin (K : PySem.W.Frag) (w : World) (hK : X.K = K := by rfl) (hw : X.w = w := by rfl) : OpR X (compareOp .In) (rKIn K w false) := by
  subst hK hw
  intro pins s σ H x y v u Q I rx ry h
  obtain ⟨p, z, b, rfl, rfl, ⟨es, n, r, hl, hk, low, e, eb⟩, q⟩ := h
  obtain ⟨t, rfl⟩ := rx
  cases ry
  have hm := PySem.W.mapOf_K (prog := X.prog) (w := X.w) I.kIn hl hk
  refine wpAny_in_of (strKind_is X.prog X.w z t) low hm ⟨.bl b, H, I.tok _, ?_, q⟩
  show Value.bool _ = Value.bool b
  rw [PySem.W.find_K hl e, eb]
theorem op_knin (K : PySem.W.Frag) (w : World) (hK : X.K = K := by rfl) (hw : X.w = w := by rfl) : OpR X (compareOp .NotIn) (rKIn K w true) := by
  subst hK hw
  intro pins s σ H x y v u Q I rx ry h
  obtain ⟨p, z, b, rfl, rfl, ⟨es, n, r, hl, hk, low, e, eb⟩, q⟩ := h
  obtain ⟨t, rfl⟩ := rx
  cases ry
  have hm := PySem.W.mapOf_K (prog := X.prog) (w := X.w) I.kIn hl hk
  refine wpAny_notIn_of (strKind_is X.prog X.w z t) low hm ⟨.bl (!b), H, I.tok _, ?_, q⟩
  show Value.bool _ = Value.bool (!b)
  rw [PySem.W.find_K hl e, eb]
theorem ix_kdictK (K : PySem.W.Frag) (w : World) (hK : X.K = K := by rfl) (hw : X.w = w := by rfl) : IxR X (rIxD K w) := by
  subst hK hw
  exact ix_kdict
/-! ### == with a shallow one -/
def rEqM (K : PySem.W.Frag) : R2 := fun x y H Q => ∃ d e, Dp K H x d ∧ Dp K H y e ∧ d.plain = true ∧ Flt e ∧ Q (.bl (PyData.eqv d e)) H
theorem op_eqM (K : PySem.W.Frag) (hu : X.A.units + 64 < cLine) (hK : X.K = K := by rfl) : OpR X (compareOp .Eq) (rEqM K) := by
  subst hK
  intro pins s σ H x y v u Q I rx ry h
  obtain ⟨d, e, hd, he, sd, se, q⟩ := h
  obtain ⟨as, r1⟩ := Dp.reads I d x v hd rx
  obtain ⟨bs, r2⟩ := Dp.reads I e y u he ry
  exact SeqAt.eq_plain r1 r2 sd se.pl (by have := se.dp; omega) ⟨.bl _, H, I, rfl, q⟩
/-- <= of alike data -/
def rLeD (K : PySem.W.Frag) : R2 := fun x y H Q => ∃ d e, Dp K H x d ∧ Dp K H y e ∧ PySem.W.alike d e = true ∧ d ≠ .none ∧ Flt e ∧ ∀ b, Q (.bl b) H
theorem op_leD (K : PySem.W.Frag) (hu : X.A.units + 64 < cLine) (hK : X.K = K := by rfl) : OpR X (compareOp .LtE) (rLeD K) := by
  subst hK
  intro pins s σ H x y v u Q I rx ry h
  obtain ⟨d, e, hd, he, al, nn, se, q⟩ := h
  obtain ⟨as, r1⟩ := Dp.reads I d x v hd rx
  obtain ⟨bs, r2⟩ := Dp.reads I e y u he ry
  exact PySem.W.le_data r1 r2 al nn (by have := se.dp; omega) ⟨.bl _, H, I, rfl, q _⟩
end
end XS

namespace XS
open PySem PySem.Spec PyProof.Rows L2
/-! ### simple statements in their form -/
abbrev tT : Stm := .con true []
abbrev tF : Stm := .con false []
theorem tru_tT (f : Str → Int) : tru f tT = true := rfl
theorem tru_tF (f : Str → Int) : tru f tF = false := rfl
theorem tru_con (f : Str → Int) (o : Bool) (l : List Stm) : tru f (.con o l) = if o = true then l.all (tru f) else l.any (tru f) := by
  show (if o = true then truAll f l else truAny f l) = _
  rw [truAll_eq, truAny_eq]
/-- numbers at most N -/
def Bs (N : Nat) (s : Sm) : Prop := s.1.natAbs ≤ N ∧ ∀ p ∈ s.2, p.2.natAbs ≤ N
theorem Bs.mono {N M : Nat} {s : Sm} (b : Bs N s) (h : N ≤ M) : Bs M s := ⟨Nat.le_trans b.1 h, fun p hp => Nat.le_trans (b.2 p hp) h⟩
/-- a sum of names nm, with parts -/
structure SO (nm : List Str) (N : Nat) (s : Sm) : Prop where
  no : Norm s.2
  sub : ∀ p ∈ s.2, p.1 ∈ nm
  ne : s.2 ≠ []
  bd : Bs N s
  sh : ∀ p ∈ s.2, p.2.natAbs < 2 ^ 30
/-- a goes in its form -/
structure GO (nm : List Str) (N : Nat) (m : Int) (s : Sm) : Prop where
  no : Norm s.2
  sub : ∀ p ∈ s.2, p.1 ∈ nm
  ne : s.2 ≠ []
  m2 : 2 ≤ m
  mN : m.natAbs ≤ N
  n0 : 0 ≤ s.1
  n1 : s.1 < m
  pm : ∀ p ∈ s.2, 0 < p.2 ∧ p.2 < m
theorem SO.mono {nm : List Str} {N M : Nat} {s : Sm} (h : SO nm N s) (l : N ≤ M) : SO nm M s := ⟨h.no, h.sub, h.ne, h.bd.mono l, h.sh⟩
theorem GO.mono {nm : List Str} {N M : Nat} {m : Int} {s : Sm} (h : GO nm N m s) (l : N ≤ M) : GO nm M m s := ⟨h.no, h.sub, h.ne, h.m2, Nat.le_trans h.mN l, h.n0, h.n1, h.pm⟩
theorem GO.bs {nm : List Str} {N : Nat} {m : Int} {s : Sm} (h : GO nm N m s) : Bs N s := by
  have := h.mN
  have := h.n0
  have := h.n1
  refine ⟨by omega, fun p hp => ?_⟩
  have := h.pm p hp
  omega
inductive Atom (nm : List Str) (N : Nat) : Stm → Prop
  | above {s : Sm} : SO nm N s → Atom nm N (.above s)
  | nought {s : Sm} : SO nm N s → Atom nm N (.nought s)
  | goes {m : Int} {s : Sm} : GO nm N m s → Atom nm N (.goes m s)
  | nn {s : Sm} : SO nm N s → Atom nm N (.neg (.nought s))
  | ng {m : Int} {s : Sm} : GO nm N m s → Atom nm N (.neg (.goes m s))
theorem Atom.mono {nm : List Str} {N M : Nat} {a : Stm} (h : Atom nm N a) (l : N ≤ M) : Atom nm M a := by
  cases h with
  | above h => exact .above (h.mono l)
  | nought h => exact .nought (h.mono l)
  | goes h => exact .goes (h.mono l)
  | nn h => exact .nn (h.mono l)
  | ng h => exact .ng (h.mono l)
/-- TRUE, FALSE, or a simple statement -/
def Fmd (p : Stm → Prop) (b : Stm) : Prop := b = tT ∨ b = tF ∨ p b
/-! ### shares divided -/
def gcdP (n : Nat) (ps : List Pr) : Nat := ps.foldl (fun g p => Nat.gcd g p.2.natAbs) n
theorem gcdP_cons (n : Nat) (p : Pr) (ps : List Pr) : gcdP n (p :: ps) = gcdP (Nat.gcd n p.2.natAbs) ps := rfl
theorem gcdP_app (n : Nat) (ps : List Pr) (p : Pr) : gcdP n (ps ++ [p]) = Nat.gcd (gcdP n ps) p.2.natAbs := by
  unfold gcdP
  rw [List.foldl_append]
  rfl
theorem gcdP_dvd : ∀ (ps : List Pr) (n : Nat), gcdP n ps ∣ n ∧ ∀ p ∈ ps, gcdP n ps ∣ p.2.natAbs
  | [], n => ⟨Nat.dvd_refl _, fun p hp => by cases hp⟩
  | q :: ps, n => by
    obtain ⟨h1, h2⟩ := gcdP_dvd ps (Nat.gcd n q.2.natAbs)
    rw [gcdP_cons]
    refine ⟨Nat.dvd_trans h1 (Nat.gcd_dvd_left _ _), fun p hp => ?_⟩
    rcases List.mem_cons.mp hp with rfl | hp
    · exact Nat.dvd_trans h1 (Nat.gcd_dvd_right _ _)
    · exact h2 p hp
/-- what goes into all goes into it -/
theorem gcdP_max : ∀ (ps : List Pr) (n k : Nat), k ∣ n → (∀ p ∈ ps, k ∣ p.2.natAbs) → k ∣ gcdP n ps
  | [], _, _, h, _ => h
  | q :: ps, n, k, h, g => by
    rw [gcdP_cons]
    exact gcdP_max ps _ k (Nat.dvd_gcd h (g q (List.mem_cons_self ..))) fun p hp => g p (List.mem_cons_of_mem _ hp)
theorem gcdP_pos {n : Nat} {ps : List Pr} (h : 0 < n ∨ ∃ p ∈ ps, p.2 ≠ 0) : 0 < gcdP n ps := by
  obtain ⟨h1, h2⟩ := gcdP_dvd ps n
  rcases h with h | ⟨p, hp, h⟩
  · exact Nat.pos_of_dvd_of_pos h1 h
  · exact Nat.pos_of_dvd_of_pos (h2 p hp) (by omega)
theorem idvd {g : Nat} {i : Int} (h : g ∣ i.natAbs) : (g : Int) ∣ i := Int.ofNat_dvd_left.mpr h
/-- all shares divided by a number -/
def divP (b : Int) (ps : List Pr) : List Pr := ps.map fun p => (p.1, p.2 / b)
theorem divP_names (b : Int) (ps : List Pr) : (divP b ps).map (·.1) = ps.map (·.1) := by
  unfold divP
  rw [List.map_map]
  rfl
theorem divP_dot {b : Int} {ps : List Pr} (h : ∀ p ∈ ps, b ∣ p.2) (f : Str → Int) : dot f ps = b * dot f (divP b ps) := by
  induction ps with
  | nil => rw [dot_nil]; show (0 : Int) = b * 0; rw [Int.mul_zero]
  | cons p ps ih =>
    show dot f (p :: ps) = b * dot f ((p.1, p.2 / b) :: divP b ps)
    rw [dot_cons, dot_cons, ih fun q hq => h q (List.mem_cons_of_mem _ hq), Int.mul_add, ← Int.mul_assoc, Int.mul_ediv_cancel' (h p (List.mem_cons_self ..))]
theorem divP_norm {b : Int} {ps : List Pr} (n : Norm ps) (h : ∀ p ∈ ps, b ∣ p.2) : Norm (divP b ps) where
  rise := by rw [divP_names]; exact n.rise
  nz := fun q hq => by
    obtain ⟨p, hp, rfl⟩ := List.mem_map.mp hq
    intro e
    have := Int.mul_ediv_cancel' (h p hp)
    have e' : p.2 / b = 0 := e
    rw [e', Int.mul_zero] at this
    exact n.nz p hp this.symm
theorem div_abs {a b : Int} (h : b ∣ a) : (a / b).natAbs ≤ a.natAbs := by
  obtain ⟨c, rfl⟩ := h
  by_cases hb : b = 0
  · subst hb; simp
  · rw [Int.mul_ediv_cancel_left _ hb, Int.natAbs_mul]
    exact Nat.le_mul_of_pos_left _ (by omega)
theorem divP_so {nm : List Str} {N : Nat} {b n n' : Int} {ps : List Pr} (h : SO nm N (n, ps)) (d : ∀ p ∈ ps, b ∣ p.2) (hn : n'.natAbs ≤ N) : SO nm N (n', divP b ps) where
  no := divP_norm h.no d
  sub := fun q hq => by
    obtain ⟨p, hp, rfl⟩ := List.mem_map.mp hq
    exact h.sub p hp
  ne := fun e => h.ne (List.map_eq_nil_iff.mp e)
  bd := ⟨hn, fun q hq => by
    obtain ⟨p, hp, rfl⟩ := List.mem_map.mp hq
    exact Nat.le_trans (div_abs (d p hp)) (h.bd.2 p hp)⟩
  sh := fun q hq => by
    obtain ⟨p, hp, rfl⟩ := List.mem_map.mp hq
    exact Nat.lt_of_le_of_lt (div_abs (d p hp)) (h.sh p hp)
theorem above_div {b n x : Int} (hb : 0 < b) : decide (0 < n + b * x) = decide (0 < -(-n / b) + x) := by
  rw [decide_eq_decide]
  have h1 := Int.mul_ediv_add_emod (-n) b
  have h2 := Int.emod_nonneg (-n) (by omega : b ≠ 0)
  have h3 := Int.emod_lt_of_pos (-n) hb
  generalize -n / b = q at h1 ⊢
  generalize -n % b = r at h1 h2 h3
  constructor
  · intro h
    have h4 : b * q < b * x := by
      have : b * q + r = -n := h1
      omega
    have := Int.lt_of_mul_lt_mul_left h4 (by omega)
    omega
  · intro h
    have h4 : q + 1 ≤ x := by omega
    have h5 : b * (q + 1) ≤ b * x := Int.mul_le_mul_of_nonneg_left h4 (by omega)
    rw [Int.mul_add, Int.mul_one] at h5
    omega
theorem ceil_abs {b n : Int} (hb : 0 < b) : (-(-n / b)).natAbs ≤ n.natAbs := by
  have h1 := Int.mul_ediv_add_emod (-n) b
  have h2 := Int.emod_nonneg (-n) (by omega : b ≠ 0)
  have h3 := Int.emod_lt_of_pos (-n) hb
  generalize -n / b = q at h1 ⊢
  generalize -n % b = r at h1 h2 h3
  rcases Int.lt_or_le 0 q with hq | hq
  · have : 1 * q ≤ b * q := Int.mul_le_mul_of_nonneg_right (by omega) (by omega)
    omega
  · have : b * q ≤ 1 * q := Int.mul_le_mul_of_nonpos_right (by omega) hq
    rcases Int.lt_or_le q 0 with h4 | h4
    · have h5 : b * q ≤ b * (-1) := Int.mul_le_mul_of_nonneg_left (by omega) (by omega)
      have h6 : (b - 1) * (q + 1) ≤ 0 := Int.mul_nonpos_of_nonneg_of_nonpos (by omega) (by omega)
      have h7 : (b - 1) * (q + 1) = b * q + b - q - 1 := by
        rw [Int.sub_mul, Int.mul_add, Int.mul_one, Int.one_mul]; omega
      omega
    · omega
end XS

namespace XS
open PySem PySem.Spec PyProof.Rows L2
theorem nought_div {b n x : Int} (hb : b ≠ 0) (h : b ∣ n) : decide (n + b * x = 0) = decide (n / b + x = 0) := by
  rw [decide_eq_decide]
  obtain ⟨c, rfl⟩ := h
  rw [Int.mul_ediv_cancel_left _ hb, ← Int.mul_add]
  constructor
  · intro h
    rcases Int.mul_eq_zero.mp h with h | h
    · exact absurd h hb
    · exact h
  · intro h
    rw [h, Int.mul_zero]
theorem nought_no {b n x : Int} (h : ¬ b ∣ n) : decide (n + b * x = 0) = false := decide_eq_false fun e => h ⟨-x, by rw [Int.mul_neg]; omega⟩
/-- c has a contrary modulo d -/
def Un (d c : Int) : Prop := ∃ e, d ∣ c * e - 1
theorem un_mul {d c y : Int} (u : Un d c) : d ∣ y * c ↔ d ∣ y := by
  constructor
  · intro h
    obtain ⟨e, k, hk⟩ := u
    obtain ⟨j, hj⟩ := h
    refine ⟨j * e - k * y, ?_⟩
    rw [Int.mul_sub, ← Int.mul_assoc, ← hj, ← Int.mul_assoc, ← hk, Int.sub_mul, Int.one_mul, Int.mul_assoc, Int.mul_comm y (c * e)]
    omega
  · rintro ⟨j, rfl⟩
    exact ⟨j * c, by rw [Int.mul_assoc]⟩
theorem un_one (d : Int) : Un d 1 := ⟨1, 0, by simp⟩
theorem un_neg1 (d : Int) : Un d (-1) := ⟨-1, 0, by simp⟩
theorem un_of {d c e : Int} (h : (c * e) % d = 1 % d) : Un d c := ⟨e, Int.dvd_of_emod_eq_zero (Int.emod_eq_emod_iff_emod_sub_eq_zero.mp h)⟩
theorem mod_iff {d x y : Int} (h : d ∣ x - y) : x % d = 0 ↔ y % d = 0 := by
  have e1 : x - (x - y) = y := by omega
  have e2 : x - y + y = x := by omega
  constructor
  · intro e
    have := Int.dvd_sub (Int.dvd_of_emod_eq_zero e) h
    rw [e1] at this
    exact Int.emod_eq_zero_of_dvd this
  · intro e
    have := Int.dvd_add h (Int.dvd_of_emod_eq_zero e)
    rw [e2] at this
    exact Int.emod_eq_zero_of_dvd this
theorem mod_dvd {d x y : Int} (h : d ∣ x - y) : decide (x % d = 0) = decide (y % d = 0) := by
  rw [decide_eq_decide, mod_iff h]
theorem goes_div {b d n x : Int} (hb : b ≠ 0) (h : b ∣ n) : decide ((n + b * x) % (b * d) = 0) = decide ((n / b + x) % d = 0) := by
  obtain ⟨c, rfl⟩ := h
  rw [Int.mul_ediv_cancel_left _ hb, ← Int.mul_add, decide_eq_decide]
  constructor
  · intro h
    obtain ⟨k, hk⟩ := Int.dvd_of_emod_eq_zero h
    refine Int.emod_eq_zero_of_dvd ⟨k, ?_⟩
    rw [Int.mul_assoc] at hk
    exact Int.eq_of_mul_eq_mul_left hb hk
  · intro h
    obtain ⟨k, hk⟩ := Int.dvd_of_emod_eq_zero h
    exact Int.emod_eq_zero_of_dvd ⟨k, by rw [hk, Int.mul_assoc]⟩
theorem goes_no {b m n x : Int} (hm : b ∣ m) (h : ¬ b ∣ n) : decide ((n + b * x) % m = 0) = false := decide_eq_false fun e => h (by
  have h1 := Int.dvd_trans hm (Int.dvd_of_emod_eq_zero e)
  have h2 := Int.dvd_sub h1 (Int.dvd_mul_right b x)
  have e2 : n + b * x - b * x = n := by omega
  rw [e2] at h2
  exact h2)
/-- shares by their rests, none nought -/
def redP (d : Int) (ps : List Pr) : List Pr := (ps.map fun p => (p.1, p.2 % d)).filter fun p => decide (p.2 ≠ 0)
theorem redP_dot {d : Int} (ps : List Pr) (f : Str → Int) : d ∣ dot f ps - dot f (redP d ps) := by
  unfold redP
  rw [filter_dot]
  induction ps with
  | nil => exact ⟨0, by simp [dot_nil]⟩
  | cons p ps ih =>
    rw [List.map_cons, dot_cons, dot_cons]
    obtain ⟨k, hk⟩ := ih
    refine ⟨p.2 / d * f p.1 + k, ?_⟩
    have h1 := Int.mul_ediv_add_emod p.2 d
    have e : p.2 * f p.1 - (p.2 % d) * f p.1 = d * (p.2 / d * f p.1) := by
      rw [← Int.sub_mul, ← Int.mul_assoc]
      congr 1
      omega
    rw [Int.mul_add, ← hk, ← e]
    show p.2 * f p.1 + dot f ps - (p.2 % d * f p.1 + _) = _
    omega
theorem redP_mem {d : Int} {ps : List Pr} (hd : 0 < d) {q : Pr} (h : q ∈ redP d ps) : 0 < q.2 ∧ q.2 < d ∧ q.1 ∈ ps.map (·.1) := by
  obtain ⟨h1, h2⟩ := List.mem_filter.mp h
  obtain ⟨p, hp, rfl⟩ := List.mem_map.mp h1
  have h3 := Int.emod_nonneg p.2 (by omega : d ≠ 0)
  have h4 := Int.emod_lt_of_pos p.2 hd
  have h5 : p.2 % d ≠ 0 := by simpa using h2
  exact ⟨by show 0 < p.2 % d; omega, h4, List.mem_map.mpr ⟨p, hp, rfl⟩⟩
theorem redP_rise {d : Int} {ps : List Pr} (h : Rising (ps.map (·.1))) : Rising ((redP d ps).map (·.1)) := by
  have e : (ps.map fun p => (p.1, p.2 % d)).map (·.1) = ps.map (·.1) := by rw [List.map_map]; rfl
  have s : ((redP d ps).map (·.1)).Sublist ((ps.map fun p => (p.1, p.2 % d)).map (·.1)) := (List.filter_sublist).map _
  rw [e] at s
  exact List.Pairwise.sublist s h
theorem redP_ne {d : Int} {ps : List Pr} (h : ∃ p ∈ ps, ¬ d ∣ p.2) : redP d ps ≠ [] := by
  obtain ⟨p, hp, h⟩ := h
  intro e
  have := List.filter_eq_nil_iff.mp e (p.1, p.2 % d) (List.mem_map.mpr ⟨p, hp, rfl⟩)
  apply h
  exact Int.dvd_of_emod_eq_zero (by simpa using this)
/-- shares times a number, by their rests -/
def mulP (c d : Int) (ps : List Pr) : List Pr := ps.map fun p => (p.1, p.2 * c % d)
theorem mulP_dot {c d : Int} (ps : List Pr) (f : Str → Int) : d ∣ dot f ps * c - dot f (mulP c d ps) := by
  unfold mulP
  induction ps with
  | nil => exact ⟨0, by simp [dot_nil]⟩
  | cons p ps ih =>
    rw [List.map_cons, dot_cons, dot_cons]
    obtain ⟨k, hk⟩ := ih
    refine ⟨p.2 * c / d * f p.1 + k, ?_⟩
    have h1 := Int.mul_ediv_add_emod (p.2 * c) d
    have e : p.2 * c * f p.1 - (p.2 * c % d) * f p.1 = d * (p.2 * c / d * f p.1) := by
      rw [← Int.sub_mul, ← Int.mul_assoc]
      congr 1
      omega
    have e2 : (p.2 * f p.1 + dot f ps) * c = p.2 * c * f p.1 + dot f ps * c := by
      rw [Int.add_mul, Int.mul_assoc, Int.mul_comm (f p.1) c, ← Int.mul_assoc]
    rw [Int.mul_add, ← hk, ← e, e2]
    show _ - (p.2 * c % d * f p.1 + _) = _
    omega
theorem mulP_names (c d : Int) (ps : List Pr) : (mulP c d ps).map (·.1) = ps.map (·.1) := by
  unfold mulP
  rw [List.map_map]
  rfl
theorem mul_go {nm : List Str} {N : Nat} {c d n : Int} {ps : List Pr} (u : Un d c) (h2 : 2 ≤ d) (hN : d.natAbs ≤ N) (rs : Rising (ps.map (·.1))) (sub : ∀ p ∈ ps, p.1 ∈ nm) (ne : ps ≠ []) (pm : ∀ p ∈ ps, 0 < p.2 ∧ p.2 < d) : GO nm N d (n * c % d, mulP c d ps) := by
  have key : ∀ q ∈ mulP c d ps, 0 < q.2 ∧ q.2 < d := fun q hq => by
    obtain ⟨p, hp, rfl⟩ := List.mem_map.mp hq
    have h3 := Int.emod_nonneg (p.2 * c) (by omega : d ≠ 0)
    have h4 := Int.emod_lt_of_pos (p.2 * c) (by omega : 0 < d)
    refine ⟨?_, h4⟩
    show 0 < p.2 * c % d
    have h5 : p.2 * c % d ≠ 0 := fun e => by
      obtain ⟨k, hk⟩ := (un_mul u).mp (Int.dvd_of_emod_eq_zero e)
      have := pm p hp
      rcases Int.lt_or_le k 1 with h6 | h6
      · have : d * k ≤ d * 0 := Int.mul_le_mul_of_nonneg_left (by omega) (by omega)
        omega
      · have : d * 1 ≤ d * k := Int.mul_le_mul_of_nonneg_left h6 (by omega)
        omega
    omega
  refine ⟨⟨by rw [mulP_names]; exact rs, fun q hq => by have := key q hq; omega⟩, fun q hq => ?_, fun e => ne (List.map_eq_nil_iff.mp e), h2, hN, Int.emod_nonneg _ (by omega), Int.emod_lt_of_pos _ (by omega), key⟩
  obtain ⟨p, hp, rfl⟩ := List.mem_map.mp hq
  exact sub p hp
/-- goes in its form says the same -/
theorem goes_form {b d n c : Int} {ps : List Pr} (hb : b ≠ 0) (hn : b ∣ n) (hp : ∀ p ∈ ps, b ∣ p.2) (u : Un d c) (f : Str → Int) :
    tru f (.goes d (n / b * c % d, mulP c d (redP d (divP b ps)))) = tru f (.goes (b * d) (n, ps)) := by
  show decide ((n / b * c % d + dot f (mulP c d (redP d (divP b ps)))) % d = 0) = decide ((n + dot f ps) % (b * d) = 0)
  rw [divP_dot hp, goes_div hb hn]
  obtain ⟨k1, h1⟩ := redP_dot (d := d) (divP b ps) f
  obtain ⟨k2, h2⟩ := mulP_dot (c := c) (d := d) (redP d (divP b ps)) f
  generalize dot f (mulP c d (redP d (divP b ps))) = z at h2 ⊢
  generalize dot f (redP d (divP b ps)) = y at h1 h2
  generalize dot f (divP b ps) = x at h1 ⊢
  generalize n / b = q
  have e1 : decide ((q + x) % d = 0) = decide (((q + x) * c) % d = 0) := by
    rw [decide_eq_decide]
    exact ⟨fun h => Int.emod_eq_zero_of_dvd ((un_mul u).mpr (Int.dvd_of_emod_eq_zero h)), fun h => Int.emod_eq_zero_of_dvd ((un_mul u).mp (Int.dvd_of_emod_eq_zero h))⟩
  rw [e1]
  refine mod_dvd ⟨-(q * c / d) - k2 - k1 * c, ?_⟩
  have h3 := Int.mul_ediv_add_emod (q * c) d
  have e3 : (q + x) * c = q * c + x * c := Int.add_mul ..
  have e4 : x * c = y * c + d * (k1 * c) := by
    have : x = y + d * k1 := by omega
    rw [this, Int.add_mul, Int.mul_assoc]
  rw [e3, e4, Int.mul_sub, Int.mul_sub, Int.mul_neg]
  omega
/-- where all shares go into, some share is not nought modulo what is left -/
theorem small_ne {m : Int} {ps : List Pr} {g : Nat} {d : Int} (hg : g = gcdP m.natAbs ps) (hm : m = g * d) (hd : 2 ≤ d) (hm0 : 0 < m) : redP d (divP g ps) ≠ [] := by
  apply redP_ne
  by_cases h : ∃ p ∈ divP g ps, ¬ d ∣ p.2
  · exact h
  · exfalso
    have h' : ∀ p ∈ divP (g : Int) ps, d ∣ p.2 := fun p hp => Classical.byContradiction fun c => h ⟨p, hp, c⟩
    obtain ⟨d1, d2⟩ := gcdP_dvd ps m.natAbs
    have g0 : 0 < g := by rw [hg]; exact gcdP_pos (.inl (by omega))
    have big : g * d.natAbs ∣ gcdP m.natAbs ps := by
      refine gcdP_max ps _ _ ?_ fun p hp => ?_
      · have : m.natAbs = g * d.natAbs := by rw [hm, Int.natAbs_mul]; rfl
        rw [this]
        exact Nat.dvd_refl _
      · have h1 := h' (p.1, p.2 / g) (List.mem_map.mpr ⟨p, hp, rfl⟩)
        have h2 : (g : Int) ∣ p.2 := idvd (by rw [hg]; exact d2 p hp)
        have e : p.2 = g * (p.2 / g) := (Int.mul_ediv_cancel' h2).symm
        have : p.2.natAbs = g * (p.2 / g).natAbs := by
          have := congrArg Int.natAbs e
          rw [Int.natAbs_mul] at this
          exact this
        rw [this]
        exact Nat.mul_dvd_mul_left g (Int.natAbs_dvd_natAbs.mpr h1)
    rw [← hg] at big
    have := Nat.le_of_dvd g0 big
    have h3 : g * 2 ≤ g * d.natAbs := Nat.mul_le_mul_left g (by omega)
    omega
/-! ### contraries -/
def negP (ps : List Pr) : List Pr := ps.map fun p => (p.1, -p.2)
theorem negP_dot (ps : List Pr) (f : Str → Int) : dot f (negP ps) = - dot f ps := by
  unfold negP
  induction ps with
  | nil => rfl
  | cons p ps ih =>
    rw [List.map_cons, dot_cons, dot_cons, ih]
    show -p.2 * f p.1 + _ = _
    rw [Int.neg_mul]
    omega
theorem negP_names (ps : List Pr) : (negP ps).map (·.1) = ps.map (·.1) := by
  unfold negP
  rw [List.map_map]
  rfl
theorem negP_so {nm : List Str} {N : Nat} {n n' : Int} {ps : List Pr} (h : SO nm N (n, ps)) (hn : n'.natAbs ≤ N + 1) : SO nm (N + 1) (n', negP ps) where
  no := ⟨by rw [negP_names]; exact h.no.rise, fun q hq => by
    obtain ⟨p, hp, rfl⟩ := List.mem_map.mp hq
    have := h.no.nz p hp
    show -p.2 ≠ 0
    omega⟩
  sub := fun q hq => by
    obtain ⟨p, hp, rfl⟩ := List.mem_map.mp hq
    exact h.sub p hp
  ne := fun e => h.ne (List.map_eq_nil_iff.mp e)
  bd := ⟨hn, fun q hq => by
    obtain ⟨p, hp, rfl⟩ := List.mem_map.mp hq
    have := h.bd.2 p hp
    show (-p.2).natAbs ≤ _
    omega⟩
  sh := fun q hq => by
    obtain ⟨p, hp, rfl⟩ := List.mem_map.mp hq
    have := h.sh p hp
    show (-p.2).natAbs < _
    omega
/-- the contrary of a simple statement -/
def conS : Stm → Stm
  | .above s => .above (1 - s.1, negP s.2)
  | .nought s => .neg (.nought s)
  | .goes m s => if m = 2 then .goes 2 (1 - s.1, s.2) else .neg (.goes m s)
  | .neg a => a
  | a => a
theorem conS_ok {nm : List Str} {N : Nat} {a : Stm} (h : Atom nm N a) : Atom nm (N + 1) (conS a) ∧ ∀ f, tru f (conS a) = !tru f a := by
  cases h with
  | @above s h =>
    refine ⟨.above (negP_so (n := s.1) h (by have := h.bd.1; omega)), fun f => ?_⟩
    show decide (0 < 1 - s.1 + dot f (negP s.2)) = !decide (0 < s.1 + dot f s.2)
    rw [negP_dot, ← decide_not, decide_eq_decide]
    omega
  | nought h => exact ⟨.nn (h.mono (Nat.le_succ _)), fun f => rfl⟩
  | @goes m s h =>
    show Atom nm (N + 1) (if m = 2 then _ else _) ∧ ∀ f, tru f (if m = 2 then _ else _) = _
    by_cases e : m = 2
    · subst e
      rw [if_pos rfl]
      refine ⟨.goes ⟨h.no, h.sub, h.ne, by decide, Nat.le_succ_of_le h.mN, ?_, ?_, h.pm⟩, fun f => ?_⟩
      · have := h.n0; have := h.n1; show 0 ≤ 1 - s.1; omega
      · have := h.n0; have := h.n1; show 1 - s.1 < 2; omega
      · show decide ((1 - s.1 + dot f s.2) % 2 = 0) = !decide ((s.1 + dot f s.2) % 2 = 0)
        rw [← decide_not, decide_eq_decide]
        have := h.n0; have := h.n1
        omega
    · rw [if_neg e]
      exact ⟨.ng (h.mono (Nat.le_succ _)), fun f => rfl⟩
  | nn h => exact ⟨.nought (h.mono (Nat.le_succ _)), fun f => (Bool.not_not _).symm⟩
  | ng h => exact ⟨.goes (h.mono (Nat.le_succ _)), fun f => (Bool.not_not _).symm⟩
end XS

namespace XS
open PySem PySem.Spec PyProof.Rows L2
/-! ### the contrary of a number modulo another: Euclid's way -/
/-- where the way stands: rest, other, before, factor -/
structure Euc (k m r o b f : Int) : Prop where
  o0 : 0 ≤ o
  ro : o < r ∨ (o = 0 ∧ 0 < r) ∨ (r = m ∧ o < m ∧ 0 < r)
  d1 : m ∣ b * k - r
  d2 : m ∣ f * k - o
  g : Int.gcd r o = Int.gcd m k
  sg : ∃ e : Int, (e = 1 ∨ e = -1) ∧ 0 ≤ e * f ∧ e * b ≤ 0 ∧ r * (e * f) - o * (e * b) = m
theorem Euc.rpos {k m r o b f : Int} (E : Euc k m r o b f) : 0 < r := by
  have := E.o0
  rcases E.ro with h | h | h <;> omega
theorem Euc.small {k m r o b f : Int} (E : Euc k m r o b f) (hm : 0 < m) : f.natAbs ≤ m.natAbs ∧ r ≤ m + r := by
  obtain ⟨e, he, h1, h2, h3⟩ := E.sg
  have hr := E.rpos
  have ho := E.o0
  have h4 : o * (e * b) ≤ 0 := Int.mul_nonpos_of_nonneg_of_nonpos ho h2
  have h5 : 1 * (e * f) ≤ r * (e * f) := Int.mul_le_mul_of_nonneg_right (by omega) h1
  have h6 : e * f ≤ m := by omega
  refine ⟨?_, by omega⟩
  rcases he with rfl | rfl
  · rw [Int.one_mul] at h1 h6
    omega
  · rw [Int.neg_one_mul] at h1 h6
    omega
theorem euc_start {k m : Int} (hm : 0 < m) : Euc k m m (k % m) 0 1 where
  o0 := Int.emod_nonneg _ (by omega)
  ro := .inr (.inr ⟨rfl, Int.emod_lt_of_pos _ hm, hm⟩)
  d1 := ⟨-1, by omega⟩
  d2 := ⟨k / m, by have := Int.mul_ediv_add_emod k m; omega⟩
  g := by
    have h := Int.gcd_add_mul_left_right m (k % m) (k / m)
    have e : k % m + m * (k / m) = k := by have := Int.mul_ediv_add_emod k m; omega
    rw [e] at h
    exact h.symm
  sg := ⟨1, .inl rfl, by decide, by decide, by simp⟩
theorem euc_step {k m r o b f : Int} (E : Euc k m r o b f) (h : o ≠ 0) : Euc k m o (r - r / o * o) f (b - r / o * f) ∧ 0 < o ∧ (r - r / o * o).natAbs < o.natAbs := by
  have h0 := E.o0
  have hr := E.rpos
  have e : r - r / o * o = r % o := by have := Int.mul_ediv_add_emod r o; rw [Int.mul_comm o] at this; omega
  have h1 := Int.emod_nonneg r h
  have h2 := Int.emod_lt_of_pos r (by omega : 0 < o)
  refine ⟨⟨by omega, .inl (by omega), E.d2, ?_, ?_, ?_⟩, by omega, by omega⟩
  · obtain ⟨x, hx⟩ := E.d1
    obtain ⟨y, hy⟩ := E.d2
    refine ⟨x - r / o * y, ?_⟩
    have e1 : (b - r / o * f) * k = b * k - r / o * (f * k) := by rw [Int.sub_mul, Int.mul_assoc]
    have e2 : m * (x - r / o * y) = m * x - r / o * (m * y) := by
      rw [Int.mul_sub, ← Int.mul_assoc, ← Int.mul_assoc, Int.mul_comm m (r / o)]
    have e3 : r / o * (f * k - o) = r / o * (f * k) - r / o * o := Int.mul_sub ..
    rw [e1, e2, ← hx, ← hy, e3]
    omega
  · have h3 := Int.gcd_add_mul_left_right o (r - r / o * o) (r / o)
    have e4 : r - r / o * o + o * (r / o) = r := by rw [Int.mul_comm o]; omega
    rw [e4, Int.gcd_comm, E.g] at h3
    exact h3.symm
  · obtain ⟨s, hs, h3, h4, h5⟩ := E.sg
    have hq : 0 ≤ r / o := Int.ediv_nonneg (by omega) (by omega)
    have h6 : 0 ≤ r / o * (s * f) := Int.mul_nonneg hq h3
    have e5 : s * (b - r / o * f) = s * b - r / o * (s * f) := by rw [Int.mul_sub, ← Int.mul_assoc, ← Int.mul_assoc, Int.mul_comm s (r / o)]
    refine ⟨-s, by omega, ?_, ?_, ?_⟩
    · rw [Int.neg_mul, e5]
      omega
    · rw [Int.neg_mul]
      omega
    · rw [Int.neg_mul, Int.neg_mul, e5, ← h5]
      have e6 : o * -(s * b - r / o * (s * f)) = -(o * (s * b)) + r / o * o * (s * f) := by
        rw [Int.mul_neg, Int.mul_sub, ← Int.mul_assoc o (r / o), Int.mul_comm o (r / o)]
        omega
      have e7 : (r - r / o * o) * -(s * f) = -(r * (s * f)) + r / o * o * (s * f) := by
        rw [Int.mul_neg, Int.sub_mul]
        omega
      rw [e6, e7]
      omega
theorem euc_end {k m r b f : Int} (E : Euc k m r 0 b f) (hm : 0 < m) (h : Int.gcd k m = 1) : (k * (b % m)) % m = 1 % m := by
  have hr := E.rpos
  have g := E.g
  rw [Int.gcd_comm m k, h, Int.gcd_zero_right] at g
  have e : r = 1 := by omega
  subst e
  rw [Int.mul_emod_emod_, Int.mul_comm]
  exact Int.emod_eq_emod_iff_emod_sub_eq_zero.mpr (Int.emod_eq_zero_of_dvd E.d1)
where
  Int.mul_emod_emod_ {a b m : Int} : a * (b % m) % m = a * b % m := by
    rw [Int.mul_emod, Int.emod_emod_of_dvd _ (Int.dvd_refl m), ← Int.mul_emod]
/-- a contrary modulo m -/
def sp_inverse : Sp := fun vs H Q _ => ∃ k m : Int, vs = [.int k, .int m] ∧ 0 < m ∧ Int.gcd k m = 1 ∧ m.natAbs.log2 < 4000 ∧ ∀ H' r, Same H H' → 0 ≤ r → r < m → (k * r) % m = 1 % m → Q (.int r) H'
/-! ### trees: and, or over simple statements -/
def isCon : Stm → Bool
  | .con _ _ => true
  | _ => false
/-- at most n over one another -/
inductive Tr (p : Stm → Prop) : Nat → Stm → Prop
  | atom {a : Stm} {n : Nat} : p a → isCon a = false → Tr p n a
  | con {o : Bool} {l : List Stm} {n : Nat} : l ≠ [] → (∀ b ∈ l, Tr p n b) → Tr p (n + 1) (.con o l)
theorem Tr.mono {p : Stm → Prop} {n : Nat} {a : Stm} (h : Tr p n a) : ∀ {m : Nat}, n ≤ m → Tr p m a := by
  induction h with
  | atom h e => exact fun _ => .atom h e
  | con hl _ ih =>
    intro m hm
    obtain ⟨j, rfl⟩ : ∃ j, m = j + 1 := ⟨m - 1, by omega⟩
    exact .con hl fun b hb => ih b hb (by omega)
def FT (p : Stm → Prop) (n : Nat) (a : Stm) : Prop := a = tT ∨ a = tF ∨ Tr p n a
theorem FT.mono {p : Stm → Prop} {n m : Nat} {a : Stm} (h : FT p n a) (l : n ≤ m) : FT p m a := by
  rcases h with h | h | h
  · exact .inl h
  · exact .inr (.inl h)
  · exact .inr (.inr (h.mono l))
mutual
/-- how many simple ones -/
def lv : Stm → Nat
  | .above _ => 1
  | .nought _ => 1
  | .goes _ _ => 1
  | .neg a => lv a
  | .con _ l => lvs l
  | .bnd _ _ a => lv a
def lvs : List Stm → Nat
  | [] => 0
  | a :: l => lv a + lvs l
end
theorem lvs_app : ∀ (l m : List Stm), lvs (l ++ m) = lvs l + lvs m
  | [], m => by show lvs m = 0 + lvs m; omega
  | a :: l, m => by
    show lv a + lvs (l ++ m) = lv a + lvs l + lvs m
    rw [lvs_app l m]
    omega
theorem lv_pos {p : Stm → Prop} (hp : ∀ a, p a → 0 < lv a) {n : Nat} {a : Stm} (h : Tr p n a) : 0 < lv a := by
  induction h with
  | atom h _ => exact hp _ h
  | @con o l n hl _ ih =>
    cases l with
    | nil => exact absurd rfl hl
    | cons b l =>
      have := ih b (List.mem_cons_self ..)
      show 0 < lv b + lvs l
      omega
theorem lvs_len {p : Stm → Prop} (hp : ∀ a, p a → 0 < lv a) {n : Nat} : ∀ {l : List Stm}, (∀ b ∈ l, Tr p n b) → l.length ≤ lvs l
  | [], _ => Nat.le_refl _
  | b :: l, h => by
    have h1 := lv_pos hp (h b (List.mem_cons_self ..))
    have h2 := lvs_len hp (l := l) fun c hc => h c (List.mem_cons_of_mem _ hc)
    show l.length + 1 ≤ lv b + lvs l
    omega
theorem lv_in : ∀ {l : List Stm} {a : Stm}, a ∈ l → lv a ≤ lvs l
  | b :: l, a, h => by
    show lv a ≤ lv b + lvs l
    rcases List.mem_cons.mp h with rfl | h
    · omega
    · have := lv_in h; omega
theorem atom_lv {nm : List Str} {N : Nat} {a : Stm} (h : Atom nm N a) : 0 < lv a := by cases h <;> exact Nat.one_pos
theorem atom_lv1 {nm : List Str} {N : Nat} {a : Stm} (h : Atom nm N a) : lv a = 1 := by cases h <;> rfl
theorem atom_con {nm : List Str} {N : Nat} {a : Stm} (h : Atom nm N a) : isCon a = false := by cases h <;> rfl
/-- it settles and, or -/
def decB (o : Bool) : Stm → Bool
  | .con o' [] => o' != o
  | _ => false
theorem decB_eq {o : Bool} {a : Stm} (h : decB o a = true) : a = .con (!o) [] := by
  cases a with
  | con o' l =>
    cases l with
    | nil => cases o <;> cases o' <;> first | rfl | cases h
    | cons _ _ => cases h
  | _ => cases h
/-- what and, or joins -/
def flat1 (o : Bool) : Stm → List Stm
  | .con o' l => if o' = o then l else [.con o' l]
  | a => [a]
def wrapB (o : Bool) : List Stm → Stm
  | [x] => x
  | xs => .con o xs
def joinB (o : Bool) (l : List Stm) : Stm := if l.any (decB o) = true then .con (!o) [] else wrapB o (l.flatMap (flat1 o))
theorem wrapB_one (o : Bool) (x : Stm) : wrapB o [x] = x := rfl
theorem wrapB_not (o : Bool) {xs : List Stm} (h : xs.length ≠ 1) : wrapB o xs = .con o xs := by
  unfold wrapB
  split
  · exact absurd rfl h
  · rfl
theorem flat1_tru (o : Bool) (a : Stm) (f : Str → Int) : tru f a = if o = true then (flat1 o a).all (tru f) else (flat1 o a).any (tru f) := by
  cases a with
  | con o' l =>
    show tru f (.con o' l) = if o = true then (if o' = o then l else [.con o' l]).all (tru f) else (if o' = o then l else [.con o' l]).any (tru f)
    by_cases e : o' = o
    · subst e
      simp only [if_true]
      exact tru_con f o' l
    · rw [if_neg e]
      cases o <;> simp
  | above s => cases o <;> simp [flat1]
  | nought s => cases o <;> simp [flat1]
  | goes m s => cases o <;> simp [flat1]
  | neg a => cases o <;> simp [flat1]
  | bnd q x a => cases o <;> simp [flat1]
theorem flat_tru (o : Bool) (f : Str → Int) : ∀ l : List Stm, (if o = true then (l.flatMap (flat1 o)).all (tru f) else (l.flatMap (flat1 o)).any (tru f)) = if o = true then l.all (tru f) else l.any (tru f)
  | [] => rfl
  | a :: l => by
    have h := flat_tru o f l
    have h1 := flat1_tru o a f
    cases o with
    | true =>
      simp only [if_true] at h h1 ⊢
      rw [List.flatMap_cons, List.all_append, List.all_cons, h, h1]
    | false =>
      simp only [Bool.false_eq_true, if_false] at h h1 ⊢
      rw [List.flatMap_cons, List.any_append, List.any_cons, h, h1]
theorem joinB_tru (o : Bool) (l : List Stm) (f : Str → Int) : tru f (joinB o l) = tru f (.con o l) := by
  unfold joinB
  split
  · rename_i h
    obtain ⟨a, ha, hd⟩ := List.any_eq_true.mp h
    have e := decB_eq hd
    have ea : tru f a = !o := by rw [e]; cases o <;> rfl
    have el : tru f (.con (!o) []) = !o := by cases o <;> rfl
    rw [el, tru_con]
    cases o with
    | true =>
      have : l.all (tru f) = false := Bool.eq_false_iff.mpr fun t => by rw [List.all_eq_true.mp t a ha] at ea; cases ea
      simp [this]
    | false =>
      have : l.any (tru f) = true := List.any_eq_true.mpr ⟨a, ha, ea⟩
      simp [this]
  · have key := flat_tru o f l
    rw [tru_con, ← key]
    unfold wrapB
    split
    · rename_i x hx
      rw [hx]
      cases o <;> simp
    · rw [tru_con]
theorem flat_lv (o : Bool) : ∀ l : List Stm, lvs (l.flatMap (flat1 o)) = lvs l
  | [] => rfl
  | a :: l => by
    have e : lvs (flat1 o a) = lv a := by
      cases a with
      | con o' m =>
        show lvs (if o' = o then m else [.con o' m]) = lvs m
        split
        · rfl
        · show lvs m + 0 = lvs m; omega
      | _ => rfl
    rw [List.flatMap_cons, lvs_app, flat_lv o l, e]
    rfl
theorem joinB_lv (o : Bool) (l : List Stm) : lv (joinB o l) ≤ lvs l := by
  unfold joinB
  split
  · exact Nat.zero_le _
  · have h := flat_lv o l
    unfold wrapB
    split
    · rename_i x hx
      rw [hx] at h
      have : lvs [x] = lv x + 0 := rfl
      omega
    · show lvs _ ≤ _
      omega
theorem flat_tr {p : Stm → Prop} {n : Nat} {o : Bool} {l : List Stm} (h : ∀ a ∈ l, FT p n a) (hd : l.any (decB o) = false) : ∀ b ∈ l.flatMap (flat1 o), Tr p n b := by
  intro b hb
  obtain ⟨a, ha, hb⟩ := List.mem_flatMap.mp hb
  have nd : decB o a = false := by
    have := List.any_eq_false.mp hd a ha
    simpa using this
  rcases h a ha with rfl | rfl | h
  · cases o with
    | true => cases hb
    | false => cases nd
  · cases o with
    | true => cases nd
    | false => cases hb
  · cases h with
    | atom h e =>
      have : flat1 o a = [a] := by cases a <;> first | rfl | cases e
      rw [this] at hb
      rw [List.mem_singleton.mp hb]
      exact .atom h e
    | @con o' m n hl hm =>
      have hb' : b ∈ (if o' = o then m else [.con o' m]) := hb
      split at hb'
      · exact (hm b hb').mono (Nat.le_succ _)
      · rw [List.mem_singleton.mp hb']
        exact .con hl hm
theorem joinB_ft {p : Stm → Prop} {n : Nat} {o : Bool} {l : List Stm} (h : ∀ a ∈ l, FT p n a) : FT p (n + 1) (joinB o l) := by
  unfold joinB
  split
  · cases o
    · exact .inl rfl
    · exact .inr (.inl rfl)
  · rename_i hd
    have hd' : l.any (decB o) = false := by simpa using hd
    have ht := flat_tr h hd'
    unfold wrapB
    split
    · rename_i x hx
      exact .inr (.inr ((ht x (by rw [hx]; exact List.mem_cons_self ..)).mono (Nat.le_succ _)))
    · cases e : l.flatMap (flat1 o) with
      | nil => cases o
               · exact .inr (.inl rfl)
               · exact .inl rfl
      | cons x xs => exact .inr (.inr (.con (List.cons_ne_nil _ _) (by rw [← e]; exact ht)))
end XS

namespace XS
open PySem PySem.Spec PyProof.Rows L2
/-- built-in names, the more -/
structure Bl2 (mg : Str → Option Value) : Prop where
  abs : mg "abs" = none
  max : mg "max" = none
  min : mg "min" = none
/-- TRUE, FALSE, OTHER -/
structure Ct (K : PySem.W.Frag) (w : World) (mg : Str → Option Value) (aT aF aO : Addr) : Prop where
  c_TRUE : mg "TRUE" = some (.ref aT)
  c_FALSE : mg "FALSE" = some (.ref aF)
  c_OTHER : mg "OTHER" = some (.ref aO)
  d_TRUE : ∀ H, Dp K H (.ref aT) (toD tT)
  d_FALSE : ∀ H, Dp K H (.ref aF) (toD tF)
  h_yes : ∀ o, KHas K w aO (conW o) true
  h_no : ∀ x : Str, x ∈ (["above", "nought", "goes", "not", "some", "all"] : List Str) → KHas K w aO x false
  get : ∀ o, KDct K w aO (conW o) (.str (conW (!o)))
theorem Ct.has {K : PySem.W.Frag} {w : World} {mg : Str → Option Value} {aT aF aO : Addr} (c : Ct K w mg aT aF aO) (a : Stm) : KHas K w aO (headW a) (isCon a) := by
  cases a with
  | above _ => exact c.h_no "above" (by decide +kernel)
  | nought _ => exact c.h_no "nought" (by decide +kernel)
  | goes _ _ => exact c.h_no "goes" (by decide +kernel)
  | neg _ => exact c.h_no "not" (by decide +kernel)
  | con o l => exact c.h_yes o
  | bnd o x c' =>
    cases o
    · exact c.h_no "some" (by decide +kernel)
    · exact c.h_no "all" (by decide +kernel)
section
variable {K : PySem.W.Frag} {w : World} {H : Hp} {Q : VK} {p q : Addr} {x : Str} {b : Bool} {v : V}
theorem x_kin (h : KHas K w p x b) (k : Q (.bl b) H) : rKIn K w false (.str x) (.ref p) H Q := ⟨p, x, b, rfl, rfl, h, k⟩
theorem x_knin (h : KHas K w p x b) (k : Q (.bl (!b)) H) : rKIn K w true (.str x) (.ref p) H Q := ⟨p, x, b, rfl, rfl, h, k⟩
theorem x_kget (h : KDct K w p x v) (k : Q v H) : rIxD K w (.ref p) (.str x) H Q := ⟨p, x, v, rfl, rfl, h, k⟩
theorem x_gcd {a b : Int} (k : Q (.int (Int.gcd a b : Int)) H) : rGcd [.int a, .int b] H Q := ⟨a, b, rfl, k⟩
/-- part == TRUE, FALSE -/
theorem eqv_con (o : Bool) (a : Stm) : PyData.eqv (toD a) (toD (.con o [])) = decB (!o) a := by
  have no : ∀ (x y : Str) (d e : PyData) (r : List PyData), x ≠ y → PyData.eqv (.tuple (.str x :: d :: r)) (.tuple [.str y, e]) = false := fun x y d e r h => by
    simp [PyData.eqv, PyData.eqvAll, h]
  cases a with
  | above s => exact no _ _ _ _ _ (by cases o <;> decide +kernel)
  | nought s => exact no _ _ _ _ _ (by cases o <;> decide +kernel)
  | goes m s => exact no _ _ _ _ _ (by cases o <;> decide +kernel)
  | neg a => exact no _ _ _ _ _ (by cases o <;> decide +kernel)
  | bnd q x a => exact no _ _ _ _ _ (by cases o <;> cases q <;> decide +kernel)
  | con q l =>
    by_cases e : q = o
    · subst e
      cases l with
      | nil =>
        show PyData.eqv (.tuple [.str (conW q), .tuple []]) (.tuple [.str (conW q), .tuple []]) = (q != !q)
        simp [PyData.eqv, PyData.eqvAll]
      | cons b l =>
        show PyData.eqv (.tuple [.str (conW q), .tuple (toD b :: toDs l)]) (.tuple [.str (conW q), .tuple []]) = false
        simp [PyData.eqv, PyData.eqvAll]
    · have h1 : PyData.eqv (toD (.con q l)) (toD (.con o [])) = false := no _ _ _ _ _ (by cases o <;> cases q <;> first | exact absurd rfl e | decide +kernel)
      rw [h1]
      cases l with
      | nil => cases o <;> cases q <;> first | exact absurd rfl e | rfl
      | cons _ _ => rfl
theorem plain_toD : ∀ (n : Nat) (a : Stm), dep a ≤ n → (toD a).plain = true
  | 0, a, h => by have := dep_pos a; omega
  | n + 1, a, h => by
    have two : ∀ x y : PyData, x.plain = true → y.plain = true → (PyData.tuple [x, y]).plain = true := fun x y h1 h2 => by simp [PyData.plain, PyData.plainAll, h1, h2]
    have three : ∀ x y z : PyData, x.plain = true → y.plain = true → z.plain = true → (PyData.tuple [x, y, z]).plain = true := fun x y z h1 h2 h3 => by simp [PyData.plain, PyData.plainAll, h1, h2, h3]
    have sm : ∀ s : Sm, (sumD s).plain = true := fun s => two _ _ rfl (by
      show PyData.plainAll (s.2.map prT) = true
      exact plainAll fun d hd => by
        obtain ⟨p, _, rfl⟩ := List.mem_map.mp hd
        exact two _ _ rfl rfl)
    cases a with
    | above s => exact two _ _ rfl (sm s)
    | nought s => exact two _ _ rfl (sm s)
    | goes m s => exact three _ _ _ rfl rfl (sm s)
    | neg c => exact two _ _ rfl (plain_toD n c (Nat.le_of_succ_le_succ h))
    | bnd o x c => exact three _ _ _ rfl rfl (plain_toD n c (Nat.le_of_succ_le_succ h))
    | con o l =>
      refine two _ _ rfl ?_
      rw [toDs_map]
      show PyData.plainAll (l.map toD) = true
      exact plainAll fun d hd => by
        obtain ⟨c, hc, rfl⟩ := List.mem_map.mp hd
        exact plain_toD n c (Nat.le_trans (dep_in hc) (Nat.le_of_succ_le_succ h))
theorem flt_con (o : Bool) : Flt (toD (.con o [])) := ⟨rfl, by simp [toD, toDs, PyData.depth, PyData.depthAll]⟩
theorem x_eqC {o : Bool} {a : Stm} {v : V} (h1 : Dp K H v (toD a)) (h2 : Dp K H (.ref p) (toD (.con o []))) (k : Q (.bl (decB (!o) a)) H) : rEqM K v (.ref p) H Q :=
  ⟨toD a, toD (.con o []), h1, h2, plain_toD _ a (Nat.le_refl _), flt_con o, by rw [eqv_con]; exact k⟩
end
/-! ### promises of simple.py -/
def sp_share_all (K : PySem.W.Frag) : Sp := fun vs H Q _ => ∃ (v : V) (ps : List Pr) (n : Nat), vs = [v, .int n] ∧ (Dp K H v (.tuple (ps.map prT))) ∧ Q (.int (gcdP n ps)) H
def sp_factor (K : PySem.W.Frag) : Sp := fun vs H Q _ => ∃ (v : V) (ps : List Pr) (d : Int), vs = [.int d, v] ∧ Dp K H v (.list (ps.map prT)) ∧ ps.length < 64 ∧ 2 ≤ d ∧ d.natAbs.log2 < 4000 ∧ ∀ c H', Same H H' → Un d c → c.natAbs ≤ d.natAbs → Q (.int c) H'
/-- a sum's end: what it takes, what it tells -/
structure InS (nm : List Str) (N : Nat) (s : Sm) : Prop where
  no : Norm s.2
  sub : ∀ p ∈ s.2, p.1 ∈ nm
  bd : Bs N s
  len : s.2.length < 64
  sh : ∀ p ∈ s.2, p.2.natAbs < 2 ^ 30
theorem InS.so {nm : List Str} {N : Nat} {s : Sm} (h : InS nm N s) (ne : s.2 ≠ []) : SO nm N s := ⟨h.no, h.sub, ne, h.bd, h.sh⟩
/-- an above with parts -/
def Ab (nm : List Str) (N : Nat) (b : Stm) : Prop := ∃ s, b = .above s ∧ SO nm N s
theorem Ab.atom {nm : List Str} {N : Nat} {b : Stm} (h : Ab nm N b) : Atom nm N b := by
  obtain ⟨s, rfl, h⟩ := h
  exact .above h
def sp_form1 (p : Stm → Prop) (nm : List Str) (N : Nat) (mk : Sm → Stm) (K : PySem.W.Frag) : Sp := fun vs H Q _ => ∃ (v : V) (s : Sm), vs = [v] ∧ Dp K H v (sumD s) ∧ InS nm N s ∧ ∀ (t : Addr) (b : Stm) (H' : Hp), Same H H' → Fmd p b → (∀ f, tru f b = tru f (mk s)) → Dp K H' (.ref t) (toD b) → Q (.ref t) H'
theorem form1_imp {p q : Stm → Prop} (h : ∀ b, p b → q b) {nm : List Str} {N : Nat} {mk : Sm → Stm} {K : PySem.W.Frag} (vs : List V) (H : Hp) (Q : VK) (E : XK) (k : sp_form1 q nm N mk K vs H Q E) : sp_form1 p nm N mk K vs H Q E := by
  obtain ⟨v, s, e, d, i, k⟩ := k
  exact ⟨v, s, e, d, i, fun t b H' e1 f => k t b H' e1 (by rcases f with f | f | f; exact .inl f; exact .inr (.inl f); exact .inr (.inr (h _ f)))⟩
def sp_goes (nm : List Str) (N : Nat) (K : PySem.W.Frag) : Sp := fun vs H Q _ => ∃ (v : V) (s : Sm) (m : Int), vs = [.int m, v] ∧ Dp K H v (sumD s) ∧ InS nm N s ∧ 0 < m ∧ m.natAbs ≤ N ∧ ∀ (t : Addr) (b : Stm) (H' : Hp), Same H H' → Fmd (Atom nm N) b → (∀ f, tru f b = tru f (.goes m s)) → Dp K H' (.ref t) (toD b) → Q (.ref t) H'
/-- an end that may be brought into its form -/
def EndOk (nm : List Str) (N : Nat) (a : Stm) : Prop := isEnd a = true ∧ InS nm N (sumOf a) ∧ ∀ m s, a = .goes m s → 0 < m ∧ m.natAbs ≤ N
def sp_simple (nm : List Str) (N : Nat) (K : PySem.W.Frag) : Sp := fun vs H Q _ => ∃ (v : V) (a : Stm), vs = [v] ∧ Dp K H v (toD a) ∧ EndOk nm N a ∧ ∀ (t : Addr) (b : Stm) (H' : Hp), Same H H' → Fmd (Atom nm N) b → (∀ f, tru f b = tru f a) → Dp K H' (.ref t) (toD b) → Q (.ref t) H'
def sp_contrary (nm : List Str) (N : Nat) (K : PySem.W.Frag) : Sp := fun vs H Q _ => ∃ (v : V) (a : Stm), vs = [v] ∧ Dp K H v (toD a) ∧ Atom nm N a ∧ ∀ (t : Addr) (H' : Hp), Same H H' → Dp K H' (.ref t) (toD (conS a)) → Q (.ref t) H'
def sp_turned (K : PySem.W.Frag) : Sp := fun vs H Q _ => ∃ (v : V) (ps : List Pr), vs = [v] ∧ Dp K H v (.tuple (ps.map prT)) ∧ ps.length < 50000 ∧ ∀ (t : Addr) (H' : Hp), Same H H' → Dp K H' (.ref t) (.tuple ((negP ps).map prT)) → Q (.ref t) H'
/-- the inner one of a contrary, else the statement -/
def inner : Stm → Stm
  | .neg a => a
  | a => a
def sp_about (K : PySem.W.Frag) : Sp := fun vs H Q _ => ∃ (v : V) (a : Stm), vs = [v] ∧ Dp K H v (toD a) ∧ Q (.str (headW (inner a))) H
def sp_sum_of (K : PySem.W.Frag) : Sp := fun vs H Q _ => ∃ (v : V) (a : Stm), vs = [v] ∧ Dp K H v (toD a) ∧ isEnd (inner a) = true ∧ ∀ u, Dp K H u (sumD (sumOf (inner a))) → Q u H
def sp_decides (K : PySem.W.Frag) : Sp := fun vs H Q _ => ∃ (v : V) (a : Stm) (o : Bool), vs = [.str (conW o), v] ∧ Dp K H v (toD a) ∧ Q (.bl (decB o a)) H
/-- joined: of a list or a tuple -/
def sp_joined (K : PySem.W.Frag) : Sp := fun vs H Q _ => ∃ (p : Addr) (us : List V) (l : List Stm) (o : Bool), vs = [.str (conW o), .ref p] ∧ (SqL K H p us ∨ SqT K H p us) ∧ DpAll K H us (l.map toD) ∧ (l.flatMap (flat1 o)).length ≤ 1000000 ∧
  ∀ (t : Addr) (H' : Hp), Same H H' → Dp K H' (.ref t) (toD (joinB o l)) → Q (.ref t) H'
def oppS : Nat → Stm → Stm
  | 0, a => a
  | n + 1, .con o l => .con (!o) (l.map (oppS n))
  | _ + 1, a => conS a
end XS

namespace XS
open PySem PySem.Spec PyProof.Rows L2
theorem log2_mono {a b : Nat} (h : a ≤ b) : a.log2 ≤ b.log2 := by
  by_cases ha : a = 0
  · subst ha
    simp
  · have hb : b ≠ 0 := by omega
    have h1 : 2 ^ a.log2 ≤ a := Nat.log2_self_le ha
    rcases Nat.lt_or_ge b.log2 a.log2 with c | c
    · have := (Nat.log2_lt hb).mp c
      omega
    · exact c
end XS
namespace XS
open PySem PySem.Spec PyProof.Rows L2
theorem alike_prs : ∀ ps qs : List Pr, PySem.W.alike (.list (ps.map prT)) (.list (qs.map prT)) = true := by
  have key : ∀ ps qs : List Pr, PySem.W.alikeAll (ps.map prT) (qs.map prT) = true := by
    intro ps
    induction ps with
    | nil => intro qs; simp [PySem.W.alikeAll]
    | cons p ps ih =>
      intro qs
      cases qs with
      | nil => simp [PySem.W.alikeAll]
      | cons q qs =>
        rw [List.map_cons, List.map_cons]
        have h := ih qs
        simp [PySem.W.alikeAll, PySem.W.alike, prT, h]
  intro ps qs
  have h := key ps qs
  simpa [PySem.W.alike] using h
theorem flt_prs (ps : List Pr) : Flt (.list (ps.map prT)) := by
  refine ⟨?_, ?_⟩
  · show PyData.plainAll (ps.map prT) = true
    exact plainAll fun d hd => by
      obtain ⟨p, _, rfl⟩ := List.mem_map.mp hd
      simp [prT, PyData.plain, PyData.plainAll]
  · have := depthAll_le (xs := ps.map prT) (n := 1) fun d hd => by
      obtain ⟨p, _, rfl⟩ := List.mem_map.mp hd
      simp [prT, PyData.depth, PyData.depthAll]
    simp only [PyData.depth]
    omega
end XS

namespace XS
open PySem PySem.Spec PyProof.Rows L2
/-! ### contraries of trees -/
mutual
def opT : Stm → Stm
  | .con o l => .con (!o) (opTs l)
  | .above s => conS (.above s)
  | .nought s => conS (.nought s)
  | .goes m s => conS (.goes m s)
  | .neg a => a
  | .bnd o x a => .bnd o x a
def opTs : List Stm → List Stm
  | [] => []
  | a :: l => opT a :: opTs l
end
theorem opTs_map : ∀ l, opTs l = l.map opT
  | [] => rfl
  | a :: l => by rw [List.map_cons, ← opTs_map l]; rfl
theorem opT_atom {nm : List Str} {N : Nat} {a : Stm} (h : Atom nm N a) : opT a = conS a := by cases h <;> rfl
theorem conS_con {nm : List Str} {N : Nat} {a : Stm} (h : Atom nm N a) : isCon (conS a) = false := atom_con (conS_ok h).1
theorem opT_tr {nm : List Str} {N n : Nat} {a : Stm} (h : Tr (Atom nm N) n a) : Tr (Atom nm (N + 1)) n (opT a) ∧ (∀ f, tru f (opT a) = !tru f a) ∧ lv (opT a) = lv a := by
  induction h with
  | atom h _ =>
    rw [opT_atom h]
    exact ⟨.atom (conS_ok h).1 (conS_con h), (conS_ok h).2, by rw [atom_lv1 (conS_ok h).1, atom_lv1 h]⟩
  | @con o l n hl _ ih =>
    have e : opT (.con o l) = .con (!o) (l.map opT) := by show Stm.con (!o) (opTs l) = _; rw [opTs_map]
    rw [e]
    refine ⟨.con (fun e => hl (List.map_eq_nil_iff.mp e)) fun b hb => ?_, fun f => ?_, ?_⟩
    · obtain ⟨c, hc, rfl⟩ := List.mem_map.mp hb
      exact (ih c hc).1
    · rw [tru_con, tru_con]
      have key : ∀ m : List Stm, (∀ c ∈ m, c ∈ l) → (m.map opT).any (tru f) = !m.all (tru f) ∧ (m.map opT).all (tru f) = !m.any (tru f) := by
        intro m
        induction m with
        | nil => intro _; exact ⟨rfl, rfl⟩
        | cons c m ihm =>
          intro hm
          obtain ⟨h1, h2⟩ := ihm fun d hd => hm d (List.mem_cons_of_mem _ hd)
          have h3 := (ih c (hm c (List.mem_cons_self ..))).2.1 f
          rw [List.map_cons, List.any_cons, List.all_cons, List.any_cons, List.all_cons, h1, h2, h3]
          cases tru f c <;> simp
      obtain ⟨h1, h2⟩ := key l fun _ h => h
      cases o with
      | true => simpa using h1
      | false => simpa using h2
    · show lvs (l.map opT) = lvs l
      have key : ∀ m : List Stm, (∀ c ∈ m, c ∈ l) → lvs (m.map opT) = lvs m := by
        intro m
        induction m with
        | nil => intro _; rfl
        | cons c m ihm =>
          intro hm
          show lv (opT c) + lvs (m.map opT) = lv c + lvs m
          rw [ihm fun d hd => hm d (List.mem_cons_of_mem _ hd), (ih c (hm c (List.mem_cons_self ..))).2.2]
      exact key l fun _ h => h
theorem opT_ft {nm : List Str} {N n : Nat} {a : Stm} (h : FT (Atom nm N) n a) : FT (Atom nm (N + 1)) n (opT a) ∧ (∀ f, tru f (opT a) = !tru f a) ∧ lv (opT a) = lv a := by
  rcases h with rfl | rfl | h
  · exact ⟨.inr (.inl rfl), fun _ => rfl, rfl⟩
  · exact ⟨.inl rfl, fun _ => rfl, rfl⟩
  · obtain ⟨h1, h2, h3⟩ := opT_tr h
    exact ⟨.inr (.inr h1), h2, h3⟩
/-- FT in depth of statements -/
theorem tr_dep {p : Stm → Prop} {n : Nat} {a : Stm} (hp : ∀ a, p a → dep a ≤ 2) (h : Tr p n a) : dep a ≤ n + 2 := by
  induction h with
  | atom h _ => have := hp _ h; omega
  | @con o l n _ _ ih =>
    show deps l + 1 ≤ n + 1 + 2
    have := deps_le ih
    omega
theorem ft_dep {p : Stm → Prop} {n : Nat} {a : Stm} (hp : ∀ a, p a → dep a ≤ 2) (h : FT p n a) : dep a ≤ n + 2 := by
  rcases h with rfl | rfl | h
  · show 0 + 1 ≤ _; omega
  · show 0 + 1 ≤ _; omega
  · exact tr_dep hp h
theorem atom_dep {nm : List Str} {N : Nat} {a : Stm} (h : Atom nm N a) : dep a ≤ 2 := by
  cases h with
  | above _ | nought _ | goes _ => exact (by decide : (1 : Nat) ≤ 2)
  | nn _ | ng _ => exact Nat.le_refl 2
theorem flat_len {p : Stm → Prop} (hp : ∀ a, p a → 0 < lv a) {n : Nat} {o : Bool} : ∀ {l : List Stm}, (∀ a ∈ l, FT p n a) → (l.flatMap (flat1 o)).length ≤ lvs l + l.length
  | [], _ => Nat.le_refl _
  | a :: l, h => by
    have h1 := flat_len hp (o := o) (l := l) fun b hb => h b (List.mem_cons_of_mem _ hb)
    have h2 : (flat1 o a).length ≤ lv a + 1 := by
      rcases h a (List.mem_cons_self ..) with rfl | rfl | h
      · cases o <;> simp [flat1]
      · cases o <;> simp [flat1]
      · cases h with
        | atom _ e =>
          have : flat1 o a = [a] := by cases a <;> first | rfl | cases e
          rw [this]
          simp
        | @con o' m n hl hm =>
          have := lvs_len hp hm
          show (if o' = o then m else [.con o' m]).length ≤ lvs m + 1
          split
          · omega
          · simp
    rw [List.flatMap_cons, List.length_append]
    show _ ≤ lv a + lvs l + (l.length + 1)
    omega
def sp_opposite (nm : List Str) (N n : Nat) (K : PySem.W.Frag) : Sp := fun vs H Q _ => ∃ (v : V) (a : Stm), vs = [v] ∧ Dp K H v (toD a) ∧ FT (Atom nm N) n a ∧ lv a ≤ 100000 ∧ ∀ (t : Addr) (H' : Hp), Same H H' → Dp K H' (.ref t) (toD (opT a)) → Q (.ref t) H'
/-- a function that changes simple statements -/
def sp_change (p q : Stm → Prop) (K : PySem.W.Frag) : Sp := fun vs H Q _ => ∃ (v : V) (a : Stm), vs = [v] ∧ Dp K H v (toD a) ∧ p a ∧ ∀ (t : Addr) (b : Stm) (H' : Hp), Same H H' → FT q 1 b → (∀ f, tru f b = tru f a) → lv b ≤ 2 → Dp K H' (.ref t) (toD b) → Q (.ref t) H'
def sp_changed (p q : Stm → Prop) (g : Addr) (n : Nat) (K : PySem.W.Frag) : Sp := fun vs H Q _ => ∃ (v : V) (a : Stm), vs = [v, .ref g] ∧ Dp K H v (toD a) ∧ FT p n a ∧ lv a ≤ 100000 ∧
  ∀ (t : Addr) (b : Stm) (H' : Hp), Same H H' → FT q (n + 1) b → (∀ f, tru f b = tru f a) → lv b ≤ 2 * lv a → Dp K H' (.ref t) (toD b) → Q (.ref t) H'
/-- lists of statements that say the same, one by one -/
structure Rl (q : Stm → Prop) (n : Nat) (l bs : List Stm) : Prop where
  len : bs.length = l.length
  ft : ∀ b ∈ bs, FT q n b
  tr : ∀ f, bs.map (tru f) = l.map (tru f)
  lv : lvs bs ≤ 2 * lvs l
theorem Rl.nil {q : Stm → Prop} {n : Nat} : Rl q n [] [] := ⟨rfl, (by intro b hb; cases hb), fun _ => rfl, Nat.le_refl _⟩
theorem Rl.more {q : Stm → Prop} {n : Nat} {l bs : List Stm} {a b : Stm} (r : Rl q n l bs) (h1 : FT q n b) (h2 : ∀ f, tru f b = tru f a) (h3 : XS.lv b ≤ 2 * XS.lv a) : Rl q n (l ++ [a]) (bs ++ [b]) := by
  refine ⟨by rw [List.length_append, List.length_append, r.len]; rfl, fun c hc => ?_, fun f => ?_, ?_⟩
  · rcases List.mem_append.mp hc with hc | hc
    · exact r.ft c hc
    · rw [List.mem_singleton.mp hc]; exact h1
  · rw [List.map_append, List.map_append, r.tr f, List.map_singleton, List.map_singleton, h2]
  · have := r.lv
    rw [lvs_app, lvs_app]
    show lvs bs + (XS.lv b + 0) ≤ 2 * (lvs l + (XS.lv a + 0))
    omega
theorem Rl.con {q : Stm → Prop} {n : Nat} {l bs : List Stm} (r : Rl q n l bs) (o : Bool) (f : Str → Int) : tru f (.con o bs) = tru f (.con o l) := by
  have e := r.tr f
  have h1 : bs.all (tru f) = l.all (tru f) := by
    have := congrArg (fun z : List Bool => z.all id) e
    simp only [List.all_map] at this
    exact this
  have h2 : bs.any (tru f) = l.any (tru f) := by
    have := congrArg (fun z : List Bool => z.any id) e
    simp only [List.any_map] at this
    exact this
  rw [tru_con, tru_con, h1, h2]
def sp_depth (n : Nat) (K : PySem.W.Frag) : Sp := fun vs H Q _ => ∃ (v : V) (a : Stm), vs = [v] ∧ Dp K H v (toD a) ∧ dep a ≤ n ∧ ∀ H', Same H H' → Q (.int (dep a)) H'
def depM (l : List Stm) : Nat := l.foldl (fun m b => max m (dep b)) 0
theorem depM_app (l : List Stm) (b : Stm) : depM (l ++ [b]) = max (depM l) (dep b) := by
  unfold depM
  rw [List.foldl_append]
  rfl
theorem depM_eq (l : List Stm) : depM l = deps l := by
  have key : ∀ (l : List Stm) (m : Nat), l.foldl (fun m b => max m (dep b)) m = max m (deps l) := by
    intro l
    induction l with
    | nil => intro m; show m = max m 0; omega
    | cons b l ih =>
      intro m
      rw [List.foldl_cons, ih]
      show max (max m (dep b)) (deps l) = max m (max (dep b) (deps l))
      omega
  unfold depM
  rw [key]
  omega
theorem dep_depM (a : Stm) : dep a = depM (parts a) + 1 := by
  rw [depM_eq]
  cases a with
  | above _ | nought _ | goes _ _ => rfl
  | neg c => show dep c + 1 = max (dep c) 0 + 1; omega
  | bnd o x c => show dep c + 1 = max (dep c) 0 + 1; omega
  | con o l => rfl
def sp_no : Sp := fun _ _ _ _ => False
/-- a statement shallow enough is told as it is -/
def sp_shallow (K : PySem.W.Frag) : Sp := fun vs H Q _ => ∃ (v : V) (a : Stm) (most : Int), vs = [v, .int most] ∧ Dp K H v (toD a) ∧ dep a ≤ 60 ∧ (dep a : Int) ≤ most ∧ ∀ H', Same H H' → Q v H'
def sp_fitting (K : PySem.W.Frag) : Sp := fun vs H Q _ => ∃ (v u : V) (a s : Stm), vs = [v, u] ∧ Dp K H v (toD a) ∧ Dp K H u (toD s) ∧ dep a ≤ 40 ∧ dep s ≤ 60 ∧ ∀ H', Same H H' → Q v H'
/-- all ends of a plain statement keep q, lists are short -/
inductive Ed (q : Stm → Prop) : Stm → Prop
  | fin {a : Stm} : isEnd a = true → q a → Ed q a
  | neg {a : Stm} : Ed q a → Ed q (.neg a)
  | con {o : Bool} {l : List Stm} : (∀ a ∈ l, Ed q a) → l.length ≤ 64 → Ed q (.con o l)
theorem Ed.mono {q r : Stm → Prop} (h : ∀ a, q a → r a) {a : Stm} (e : Ed q a) : Ed r a := by
  induction e with
  | fin e x => exact .fin e (h _ x)
  | neg _ ih => exact .neg ih
  | con _ hl ih => exact .con ih hl
theorem Ed.ev {q : Stm → Prop} {p : Sm → Prop} (h : ∀ a, q a → p (sumOf a)) (hm : ∀ m s, q (.goes m s) → 0 < m) {a : Stm} (e : Ed q a) : Ev p a := by
  induction e with
  | @fin a e x =>
    cases a with
    | above s => exact .above (h _ x)
    | nought s => exact .nought (h _ x)
    | goes m s => exact .goes (h _ x) (hm m s x)
    | neg _ | con _ _ | bnd _ _ _ => cases e
  | neg _ ih => exact .neg ih
  | con _ hl ih => exact .con ih hl
theorem Ed.plain {q : Stm → Prop} {a : Stm} (e : Ed q a) : plainB a = true := by
  induction e with
  | @fin a e x => cases a <;> first | rfl | cases e
  | neg _ ih => exact ih
  | con _ _ ih =>
    show plainBs _ = true
    rw [plainBs_all]
    exact List.all_eq_true.mpr ih
structure GoodE (q : Stm → Prop) (n : Nat) (a : Stm) : Prop where
  ed : Ed q a
  dp : dep a ≤ n
theorem GoodE.mono {q : Stm → Prop} {n m : Nat} {a : Stm} (g : GoodE q n a) (h : n ≤ m) : GoodE q m a := ⟨g.ed, Nat.le_trans g.dp h⟩
theorem GoodE.fin {q : Stm → Prop} {a : Stm} (e : isEnd a = true) (h : q a) : GoodE q 1 a := ⟨.fin e h, by cases a <;> first | exact Nat.le_refl _ | cases e⟩
theorem GoodE.neg {q : Stm → Prop} {n : Nat} {a : Stm} (g : GoodE q n a) : GoodE q (n + 1) (.neg a) := ⟨.neg g.ed, Nat.succ_le_succ g.dp⟩
theorem GoodE.con {q : Stm → Prop} {n : Nat} {o : Bool} {l : List Stm} (g : ∀ a ∈ l, GoodE q n a) (hl : l.length ≤ 64) : GoodE q (n + 1) (.con o l) :=
  ⟨.con (fun a ha => (g a ha).ed) hl, Nat.succ_le_succ (deps_le fun a ha => (g a ha).dp)⟩
theorem GoodE.con0 {q : Stm → Prop} {n : Nat} {o : Bool} : GoodE q (n + 1) (.con o []) := GoodE.con (fun a ha => by cases ha) (by simp)
theorem GoodE.con1 {q : Stm → Prop} {n : Nat} {o : Bool} {a : Stm} (g : GoodE q n a) : GoodE q (n + 1) (.con o [a]) := GoodE.con (fun b hb => by rw [List.mem_singleton.mp hb]; exact g) (by simp)
theorem GoodE.con2 {q : Stm → Prop} {n : Nat} {o : Bool} {a b : Stm} (g : GoodE q n a) (h : GoodE q n b) : GoodE q (n + 1) (.con o [a, b]) := GoodE.con (fun c hc => by
  rcases List.mem_cons.mp hc with rfl | hc
  · exact g
  · rw [List.mem_singleton.mp hc]; exact h) (by simp)
theorem GoodE.con3 {q : Stm → Prop} {n : Nat} {o : Bool} {a b c : Stm} (g : GoodE q n a) (h : GoodE q n b) (k : GoodE q n c) : GoodE q (n + 1) (.con o [a, b, c]) := GoodE.con (fun d hd => by
  rcases List.mem_cons.mp hd with rfl | hd
  · exact g
  rcases List.mem_cons.mp hd with rfl | hd
  · exact h
  · rw [List.mem_singleton.mp hd]; exact k) (by simp)
theorem turnW_goodE {q : Stm → Prop} {way c : Int} {e a : Stm} {n : Nat} (ge : GoodE q (n + 1) e) (ga : GoodE q (n + 1) a) : GoodE q (n + 4) (turnW way c e a) := by
  have E2 := ge.mono (by omega : n + 1 ≤ n + 2)
  have A2 := ga.mono (by omega : n + 1 ≤ n + 2)
  have E3 := ge.mono (by omega : n + 1 ≤ n + 3)
  have A3 := ga.mono (by omega : n + 1 ≤ n + 3)
  unfold turnW
  split
  · exact GoodE.con2 A3 E3
  split
  · exact GoodE.con2 A3 E3
  split
  · exact GoodE.con2 A2.neg E3
  split
  · exact (GoodE.con3 E2 A2 GoodE.con0).neg
  split
  · exact GoodE.con2 (GoodE.con2 E2 A2) E2.neg
  split
  · exact GoodE.con3 E3 GoodE.con0 A3
  split
  · exact GoodE.con2 ga.neg.neg E2.neg
  split
  · exact GoodE.con2 (GoodE.con1 A2) (GoodE.con1 (GoodE.con1 ge))
  · refine GoodE.con (n := n + 3) (fun b hb => ?_) ?_
    · rcases List.mem_append.mp hb with hb | hb
      · rcases List.mem_cons.mp hb with rfl | hb
        · exact E3
        rcases List.mem_cons.mp hb with rfl | hb
        · exact E3
        · rw [List.mem_singleton.mp hb]; exact A3
      · rw [List.eq_of_mem_replicate hb]; exact E3
    · have h1 := Int.emod_lt_of_pos (c / 18) (by decide : (0 : Int) < 18)
      rw [List.length_append, List.length_replicate]
      show 3 + _ ≤ 64
      omega
theorem plainRun_goodE {q : Stm → Prop} {ns : List Int} {first wd most : Int} {nm : List Str} (h : ∀ c, q (endBy c nm wd most)) : ∀ i : Nat, GoodE q (1 + 3 * i) (plainRun ns first nm wd most i)
  | 0 => GoodE.fin (endBy_is ..).1 (h _)
  | i + 1 => by
    have e : 1 + 3 * (i + 1) = 3 * i + 4 := by omega
    rw [e]
    have ih := plainRun_goodE (ns := ns) (first := first) h i
    exact turnW_goodE (n := 3 * i) ((GoodE.fin (endBy_is ..).1 (h _)).mono (by omega)) (ih.mono (by omega))
theorem plainBy_goodE {q : Stm → Prop} {ns : List Int} {first count wd most : Int} {nm : List Str} (h : ∀ c nm', nm' = nm ∨ nm' = [] → q (endBy c nm' wd most)) (hc : count ≤ 6) : GoodE q 16 (plainBy ns first count nm wd most) := by
  unfold plainBy
  split
  · exact GoodE.con0.mono (n := 0 + 1) (by omega)
  · refine (plainRun_goodE (fun c => h c _ ?_) _).mono (by omega)
    unfold namesFor
    split
    · exact .inr rfl
    · exact .inl rfl
theorem edgeBy_goodE {q : Stm → Prop} {c : Int} {nm : List Str} {m : List Pr} (h : q (edgeEnd c nm m)) : GoodE q 2 (edgeBy c nm m) := by
  have e : isEnd (edgeEnd c nm m) = true := by
    unfold edgeEnd
    split
    · rfl
    split
    · rfl
    · rfl
  have g := GoodE.fin e h
  unfold edgeBy
  split
  · exact g.neg
  · exact g.mono (by omega)
/-- leaves of what is drawn -/
theorem lvs_rep (e : Stm) : ∀ n : Nat, lvs (List.replicate n e) = n * lv e
  | 0 => by simp [lvs]
  | n + 1 => by
    rw [List.replicate_succ]
    show lv e + lvs _ = _
    rw [lvs_rep e n, Nat.add_mul]
    omega
theorem turnW_lv {way c : Int} {e a : Stm} (he : lv e = 1) : lv (turnW way c e a) ≤ lv a + 20 := by
  unfold turnW
  split
  · (simp [lv, lvs, he]) <;> omega
  split
  · (simp [lv, lvs, he]) <;> omega
  split
  · (simp [lv, lvs, he]) <;> omega
  split
  · (simp [lv, lvs, he]) <;> omega
  split
  · (simp [lv, lvs, he]) <;> omega
  split
  · (simp [lv, lvs, he]) <;> omega
  split
  · (simp [lv, lvs, he]) <;> omega
  split
  · (simp [lv, lvs, he]) <;> omega
  · show lvs ([e, e, a] ++ _) ≤ _
    have h1 := Int.emod_lt_of_pos (c / 18) (by decide : (0 : Int) < 18)
    have h2 := Int.emod_nonneg (c / 18) (by decide : (18 : Int) ≠ 0)
    rw [lvs_app, lvs_rep, he]
    show lv e + (lv e + (lv a + 0)) + _ ≤ _
    omega
theorem end_lv {a : Stm} (e : isEnd a = true) : lv a = 1 := by cases a <;> first | rfl | cases e
theorem plainRun_lv {ns : List Int} {first wd most : Int} {nm : List Str} : ∀ i : Nat, lv (plainRun ns first nm wd most i) ≤ 1 + 20 * i
  | 0 => by rw [show plainRun ns first nm wd most 0 = endBy (cell ns first) nm wd most from rfl, end_lv (endBy_is ..).1]; omega
  | i + 1 => by
    have ih := plainRun_lv (ns := ns) (first := first) (wd := wd) (most := most) (nm := nm) i
    show lv (turnBy ns first nm wd most (plainRun ns first nm wd most i) i) ≤ _
    unfold turnBy
    refine Nat.le_trans (turnW_lv (end_lv (endBy_is ..).1)) ?_
    omega
theorem plainBy_lv {ns : List Int} {first count wd most : Int} {nm : List Str} (hc : count ≤ 6) : lv (plainBy ns first count nm wd most) ≤ 121 := by
  unfold plainBy
  split
  · exact Nat.zero_le _
  · refine Nat.le_trans (plainRun_lv _) ?_
    omega
/-- formed: of a plain statement, as it is wanted -/
def sp_formed (nm : List Str) (N n : Nat) (K : PySem.W.Frag) : Sp := fun vs H Q _ => ∃ (v : V) (a : Stm) (wt : Bool), vs = [v, .bl wt] ∧ Dp K H v (toD a) ∧ Ed (EndOk nm N) a ∧ dep a ≤ n ∧ lv a ≤ 10000 ∧
  ∀ (t : Addr) (b : Stm) (H' : Hp), Same H H' → FT (Atom nm (N + 1)) n b → (∀ f, tru f b = (tru f a == wt)) → lv b ≤ lv a → Dp K H' (.ref t) (toD b) → Q (.ref t) H'
end XS

namespace XS
open PySem PySem.Spec PyProof.Rows L2
theorem x_forB {K : PySem.W.Frag} {σ : L2.St} {H H0 : Hp} {D : Ends} {g : TG} {t : TS} {p : Addr} {us : List V} (hx : SqL K H0 p us ∨ SqT K H0 p us) (Pv : Nat → L2.St → Hp → Prop) (h0 : Pv 0 σ H) (hl : ∀ i σ' H', Pv i σ' H' → Same H0 H')
    (hs : ∀ i x σ' H', us[i]? = some x → Pv i σ' H' → g x σ' H' fun σ2 H2 => t { D with nx := Pv (i + 1), ct := Pv (i + 1), bk := D.nx } σ2 H2) (hd : ∀ σ' H', Pv us.length σ' H' → D.nx σ' H') :
    ∃ a, V.ref p = .ref a ∧ (((∃ xs, SqL K H a xs) ∧ ForJ (Itl K a) g t D σ H) ∨ ((∃ xs, SqT K H a xs) ∧ ForJ (Itt K a) g t D σ H)) := by
  have e0 := hl 0 σ H h0
  rcases hx with hx | hx
  · exact ⟨p, rfl, .inl ⟨⟨us, e0.seq hx⟩, for_list (K := K) (a := p) (xs := us) Pv h0 (fun i σ' H' _ q => (hl i σ' H' q).seq hx) hs hd⟩⟩
  · exact ⟨p, rfl, .inr ⟨⟨us, e0.seqT hx⟩, for_tup (K := K) (a := p) (xs := us) Pv h0 (fun i σ' H' _ q => (hl i σ' H' q).seqT hx) hs hd⟩⟩
theorem flat_take (o : Bool) {l : List Stm} {i : Nat} {a : Stm} (h : l[i]? = some a) : (l.take (i + 1)).flatMap (flat1 o) = (l.take i).flatMap (flat1 o) ++ flat1 o a := by
  rw [XS.take_more h, List.flatMap_append]
  simp
theorem head_con {a : Stm} {o : Bool} (h : headW a = conW o) : ∃ m, a = .con o m := by
  cases o with
  | true =>
    have e : decide (headW a = conW true) = isAnd a := isAnd_eq a
    rw [decide_eq_true h] at e
    cases a with
    | con q m => cases q <;> first | exact ⟨m, rfl⟩ | cases e
    | _ => cases e
  | false =>
    have e : decide (headW a = conW false) = isOr a := isOr_eq a
    rw [decide_eq_true h] at e
    cases a with
    | con q m => cases q <;> first | exact ⟨m, rfl⟩ | cases e
    | _ => cases e
end XS
namespace XS
open PySem PySem.Spec PyProof.Rows L2
/-- the def named own stands in the module's names as nm -/
def FunAs (K : PySem.W.Frag) (mg : Str → Option Value) (nm own : Str) (st : Stmt) (ps : List Str) : Prop :=
  ∃ f fd, Fun K own own st f fd ∧ mg nm = some (.ref f) ∧ Binds K fd ps []
section
variable {P : Program} {w : World} {K : PySem.W.Frag} {mg : Str → Option Value} {base : Heap} {nm own : Str} {st : Stmt} {ps N : List Str} {sp : Sp} {k : Nat} {CXX : CXT}
theorem FunAs.ok (F : FunAs K mg nm own st ps) (S : FnScope N ps (defScope st)) (len : ∀ vs H Q E, sp vs H Q E → vs.length = ps.length)
    (hbody : ∀ (f : Addr) (cdv : Value) (A : Around) (outer : List Env) (s : Shared) (H : Hp) (vs : List V) (Q : VK) (E : XK), Room k (A.deeper (envOfC own (defScope st) s.heap.objs.size f cdv)) → sp vs H Q E →
      ∃ t, PSs (cxOf CX0 P w K mg base N own (defScope st) f cdv A outer s H E).nox (defBody st) t ∧ t { nx := fun _ H' => Q .non H', rt := Q } (start N vs) H) : DefAt P w K mg base CX0 (k + 1) nm ps sp := by
  obtain ⟨f, fd, F, a, b⟩ := F
  exact ⟨f, fd, F.ok S len (hbody f), a, F.kp, b⟩
theorem FunAs.never (F : FunAs K mg nm own st ps) (no : ∀ vs H Q E, ¬ sp vs H Q E) : DefAt P w K mg base CXX k nm ps sp := by
  obtain ⟨f, fd, F, a, b⟩ := F
  exact ⟨f, fd, ⟨fun vs H Q E h => absurd h (no vs H Q E), fun A outer s H args us vs Q E _ _ _ _ h => absurd h (no vs H Q E)⟩, a, F.kp, b⟩
end
end XS

namespace XS
open PySem PySem.Spec PyProof.Rows L2
/-- numbers of the module -/
structure Ci (mg : Str → Option Value) : Prop where
  c_MOST_WITHIN : ∃ t, mg "MOST_WITHIN" = some (.int 40 t)
/-- lists of statements that say, one by one, whether the others are as wanted -/
structure Rw (q : Stm → Prop) (n : Nat) (wt : Bool) (l bs : List Stm) : Prop where
  len : bs.length = l.length
  ft : ∀ b ∈ bs, FT q n b
  tr : ∀ f, bs.map (tru f) = l.map fun c => tru f c == wt
  lv : lvs bs ≤ lvs l
theorem Rw.nil {q : Stm → Prop} {n : Nat} {wt : Bool} : Rw q n wt [] [] := ⟨rfl, (by intro b hb; cases hb), fun _ => rfl, Nat.le_refl _⟩
theorem Rw.more {q : Stm → Prop} {n : Nat} {wt : Bool} {l bs : List Stm} {a b : Stm} (r : Rw q n wt l bs) (h1 : FT q n b) (h2 : ∀ f, tru f b = (tru f a == wt)) (h3 : XS.lv b ≤ XS.lv a) : Rw q n wt (l ++ [a]) (bs ++ [b]) := by
  refine ⟨by rw [List.length_append, List.length_append, r.len]; rfl, fun c hc => ?_, fun f => ?_, ?_⟩
  · rcases List.mem_append.mp hc with hc | hc
    · exact r.ft c hc
    · rw [List.mem_singleton.mp hc]; exact h1
  · rw [List.map_append, List.map_append, r.tr f, List.map_singleton, List.map_singleton, h2]
  · have := r.lv
    rw [lvs_app, lvs_app]
    show lvs bs + (XS.lv b + 0) ≤ lvs l + (XS.lv a + 0)
    omega
theorem Rw.con {q : Stm → Prop} {n : Nat} {wt : Bool} {l bs : List Stm} (r : Rw q n wt l bs) (o : Bool) (f : Str → Int) : tru f (.con (if wt = true then o else !o) bs) = (tru f (.con o l) == wt) := by
  have e := r.tr f
  have h1 : bs.all (tru f) = l.all fun c => tru f c == wt := by
    have := congrArg (fun z : List Bool => z.all id) e
    simp only [List.all_map] at this
    exact this
  have h2 : bs.any (tru f) = l.any fun c => tru f c == wt := by
    have := congrArg (fun z : List Bool => z.any id) e
    simp only [List.any_map] at this
    exact this
  rw [tru_con, tru_con, h1, h2]
  have k1 : ∀ m : List Stm, (m.all fun c => tru f c == false) = !m.any (tru f) := by
    intro m
    induction m with
    | nil => rfl
    | cons c m ih => rw [List.all_cons, List.any_cons, ih]; cases tru f c <;> simp
  have k2 : ∀ m : List Stm, (m.any fun c => tru f c == false) = !m.all (tru f) := by
    intro m
    induction m with
    | nil => rfl
    | cons c m ih => rw [List.all_cons, List.any_cons, ih]; cases tru f c <;> simp
  have k3 : ∀ c, (tru f c == true) = tru f c := fun c => by cases tru f c <;> rfl
  cases wt with
  | true =>
    simp only [k3, if_true]
    cases o <;> simp
  | false =>
    rw [k1, k2]
    cases o <;> simp
/-- simple ones without nought -/
inductive Satom (nm : List Str) (N : Nat) : Stm → Prop
  | above {s : Sm} : SO nm N s → Satom nm N (.above s)
  | goes {m : Int} {s : Sm} : GO nm N m s → Satom nm N (.goes m s)
  | ng {m : Int} {s : Sm} : GO nm N m s → Satom nm N (.neg (.goes m s))
theorem satom_lv {nm : List Str} {N : Nat} {a : Stm} (h : Satom nm N a) : 0 < lv a := by cases h <;> exact Nat.one_pos
theorem satom_dep {nm : List Str} {N : Nat} {a : Stm} (h : Satom nm N a) : dep a ≤ 2 := by
  cases h with
  | above _ | goes _ => exact (by decide : (1 : Nat) ≤ 2)
  | ng _ => exact Nat.le_refl 2
def sp_straight (nm : List Str) (N : Nat) (K : PySem.W.Frag) (NP : Addr) : Sp := fun vs H Q E => ∃ (v : V) (a : Stm), vs = [v] ∧ Dp K H v (toD a) ∧ dep a ≤ 36 ∧ (plainB a = true → Ed (EndOk nm N) a ∧ lv a ≤ 10000) ∧
  (plainB a = true → ∀ (t : Addr) (b : Stm) (H' : Hp), Same H H' → FT (Satom nm (N + 2)) 37 b → (∀ f, tru f b = tru f a) → lv b ≤ 20000 → Dp K H' (.ref t) (toD b) → Q (.ref t) H') ∧ (plainB a = false → ∀ H', Same H H' → E (.ref NP) none H')
/-- sums near a sum -/
theorem nrm_id {ps : List Pr} (n : Norm ps) : nrm ps = ps := (norm_is n fun _ => rfl).symm
theorem mkS_id {s : Sm} (n : Norm s.2) : mkS s.1 s.2 = s := by
  show (s.1, nrm s.2) = s
  rw [nrm_id n]
theorem add_one {s : Sm} (n : Norm s.2) (k : Int) : addS (k, []) s = (k + s.1, s.2) := by
  show (k + s.1, nrm ([] ++ s.2)) = _
  rw [List.nil_append, nrm_id n]
theorem tim_neg {s : Sm} (n : Norm s.2) : timS (-1) s = (-s.1, negP s.2) := by
  show (-1 * s.1, nrm (s.2.map fun p => (p.1, -1 * p.2))) = _
  have e : (s.2.map fun p => (p.1, -1 * p.2)) = negP s.2 := List.map_congr_left fun p _ => by rw [Int.neg_one_mul]
  have n' : Norm (negP s.2) := ⟨by rw [negP_names]; exact n.rise, fun q hq => by
    obtain ⟨p, hp, rfl⟩ := List.mem_map.mp hq
    have := n.nz p hp
    show -p.2 ≠ 0
    omega⟩
  rw [e, Int.neg_one_mul, nrm_id n']
theorem so_in {nm : List Str} {N : Nat} {s : Sm} (h : SO nm N s) (hnm : nm.length ≤ 32) : InS nm N s := ⟨h.no, h.sub, h.bd, by
  have := nd_len h.no.rise.nodup (ys := nm) fun x hx => by
    obtain ⟨p, hp, rfl⟩ := List.mem_map.mp hx
    exact h.sub p hp
  rw [List.length_map] at this
  omega, h.sh⟩
theorem bs_sml {N : Nat} {s : Sm} (h : Bs N s) (hN : N.log2 < 4000) : SmlS s := by
  have k : ∀ {i : Int}, i.natAbs ≤ N → Sml i := fun h => by
    have := log2_mono h
    unfold Sml
    omega
  exact ⟨k h.1, fun p hp => k (h.2 p hp)⟩
/-- above of a sum with parts: no constant -/
def sp_above2 (nm : List Str) (N : Nat) (K : PySem.W.Frag) : Sp := fun vs H Q _ => ∃ (v : V) (s : Sm), vs = [v] ∧ Dp K H v (sumD s) ∧ InS nm N s ∧ s.2 ≠ [] ∧ ∀ (t : Addr) (s' : Sm) (H' : Hp), Same H H' → SO nm N s' → (∀ f, tru f (.above s') = tru f (.above s)) → Dp K H' (.ref t) (toD (.above s')) → Q (.ref t) H'
end XS

namespace XS
open PySem PySem.Spec PyProof.Rows L2
/-- all sums keep p, lists of any length -/
inductive Evu (p : Sm → Prop) : Stm → Prop
  | above {s : Sm} : p s → Evu p (.above s)
  | nought {s : Sm} : p s → Evu p (.nought s)
  | goes {m : Int} {s : Sm} : p s → 0 < m → Evu p (.goes m s)
  | neg {a : Stm} : Evu p a → Evu p (.neg a)
  | con {o : Bool} {l : List Stm} : (∀ a ∈ l, Evu p a) → True → Evu p (.con o l)
  | bnd {o : Bool} {x : Str} {a : Stm} : Evu p a → Evu p (.bnd o x a)
theorem Evu.parts {p : Sm → Prop} {a b : Stm} (e : Evu p a) (h : b ∈ XS.parts a) : Evu p b := by
  cases e with
  | above | nought | goes => cases h
  | @neg c hc =>
    have e : b = c := by simpa [XS.parts] using h
    subst e
    exact hc
  | @bnd o x c hc =>
    have e : b = c := by simpa [XS.parts] using h
    subst e
    exact hc
  | con c _ => exact c _ h
theorem Evu.mono {p q : Sm → Prop} (h : ∀ s, p s → q s) : ∀ {a : Stm}, Evu p a → Evu q a := by
  intro a e
  induction e with
  | above x => exact .above (h _ x)
  | nought x => exact .nought (h _ x)
  | goes x y => exact .goes (h _ x) y
  | neg _ ih => exact .neg ih
  | con _ _ ih => exact .con ih trivial
  | bnd _ ih => exact .bnd ih
theorem Ev.u {p : Sm → Prop} {a : Stm} (e : Ev p a) : Evu p a := by
  induction e with
  | above x => exact .above x
  | nought x => exact .nought x
  | goes x y => exact .goes x y
  | neg _ ih => exact .neg ih
  | con _ _ ih => exact .con ih trivial
  | bnd _ ih => exact .bnd ih
def sp_truthU (n : Nat) (K : PySem.W.Frag) : Sp := fun vs H Q _ => ∃ (v : V) (d : Addr) (a : Stm) (m : List Pr), vs = [v, .ref d] ∧ Dp K H v (toD a) ∧ H d = some (.dK (dOf m)) ∧ (∀ q ∈ m, Sml q.2) ∧ Evu (OkS m) a ∧ plainB a = true ∧ dep a ≤ n ∧ Q (.bl (tru (look m) a)) H
/-- trees in these words -/
theorem tr_evu {p : Stm → Prop} {q : Sm → Prop} {n : Nat} {a : Stm} (hp : ∀ b, p b → Evu q b) (h : Tr p n a) : Evu q a := by
  induction h with
  | atom h _ => exact hp _ h
  | con _ _ ih => exact .con ih trivial
theorem ft_evu {p : Stm → Prop} {q : Sm → Prop} {n : Nat} {a : Stm} (hp : ∀ b, p b → Evu q b) (h : FT p n a) : Evu q a := by
  rcases h with rfl | rfl | h
  · exact .con (fun b hb => by cases hb) trivial
  · exact .con (fun b hb => by cases hb) trivial
  · exact tr_evu hp h
theorem tr_plain {p : Stm → Prop} {n : Nat} {a : Stm} (hp : ∀ b, p b → plainB b = true) (h : Tr p n a) : plainB a = true := by
  induction h with
  | atom h _ => exact hp _ h
  | con _ _ ih =>
    show plainBs _ = true
    rw [plainBs_all]
    exact List.all_eq_true.mpr ih
theorem ft_plain {p : Stm → Prop} {n : Nat} {a : Stm} (hp : ∀ b, p b → plainB b = true) (h : FT p n a) : plainB a = true := by
  rcases h with rfl | rfl | h
  · rfl
  · rfl
  · exact tr_plain hp h
theorem atom_plain {nm : List Str} {N : Nat} {a : Stm} (h : Atom nm N a) : plainB a = true := by cases h <;> rfl
theorem satom_plain {nm : List Str} {N : Nat} {a : Stm} (h : Satom nm N a) : plainB a = true := by cases h <;> rfl
/-- a right sum of names nm, numbers at most N -/
def SumR (nm : List Str) (N : Nat) (s : Sm) : Prop := Norm s.2 ∧ (∀ p ∈ s.2, p.1 ∈ nm) ∧ Bs N s
theorem satom_evu {nm : List Str} {N : Nat} {a : Stm} (h : Satom nm N a) : Evu (SumR nm N) a := by
  cases h with
  | above h => exact .above ⟨h.no, h.sub, h.bd⟩
  | goes h => exact .goes ⟨h.no, h.sub, h.bs⟩ (by have := h.m2; omega)
  | ng h => exact .neg (.goes ⟨h.no, h.sub, h.bs⟩ (by have := h.m2; omega))
theorem atom_evu {nm : List Str} {N : Nat} {a : Stm} (h : Atom nm N a) : Evu (SumR nm N) a := by
  cases h with
  | above h | nought h => first | exact .above ⟨h.no, h.sub, h.bd⟩ | exact .nought ⟨h.no, h.sub, h.bd⟩
  | goes h => exact .goes ⟨h.no, h.sub, h.bs⟩ (by have := h.m2; omega)
  | nn h => exact .neg (.nought ⟨h.no, h.sub, h.bd⟩)
  | ng h => exact .neg (.goes ⟨h.no, h.sub, h.bs⟩ (by have := h.m2; omega))
/-! ### the names of a plain statement -/
mutual
def allN : Stm → List Str
  | .above s => s.2.map (·.1)
  | .nought s => s.2.map (·.1)
  | .goes _ s => s.2.map (·.1)
  | .neg a => allN a
  | .con _ l => allNs l
  | .bnd _ _ _ => []
def allNs : List Stm → List Str
  | [] => []
  | a :: l => allN a ++ allNs l
end
theorem allNs_mem {x : Str} : ∀ {l : List Stm}, x ∈ allNs l ↔ ∃ a ∈ l, x ∈ allN a
  | [] => by simp [allNs]
  | a :: l => by
    have h := allNs_mem (x := x) (l := l)
    show x ∈ allN a ++ allNs l ↔ _
    rw [List.mem_append, h]
    simp
theorem allN_fr {q : Stm → Prop} {a : Stm} (e : Ed q a) (x : Str) : x ∈ allN a ↔ XS.Fr x a := by
  induction e with
  | @fin a e _ =>
    cases a with
    | above s => exact ⟨.above, fun h => by cases h with | above h => exact h⟩
    | nought s => exact ⟨.nought, fun h => by cases h with | nought h => exact h⟩
    | goes m s => exact ⟨.goes, fun h => by cases h with | goes h => exact h⟩
    | neg _ | con _ _ | bnd _ _ _ => cases e
  | neg _ ih => exact ⟨fun h => .neg (ih.mp h), fun h => by cases h with | neg h => exact ih.mpr h⟩
  | @con o l _ _ ih =>
    show x ∈ allNs l ↔ _
    rw [allNs_mem]
    exact ⟨fun ⟨c, hc, h⟩ => .con hc ((ih c hc).mp h), fun h => by cases h with | con hc h => exact ⟨_, hc, (ih _ hc).mpr h⟩⟩
/-- the free names among nm -/
def frN (nm : List Str) (a : Stm) : List Str := nm.filter fun x => decide (x ∈ allN a)
theorem Ed.free {q : Stm → Prop} {a : Stm} (e : Ed q a) : ∀ {M : List Str}, (∀ x ∈ allN a, x ∈ M) → Ed (fun c => q c ∧ ∀ x ∈ (sumOf c).2.map (·.1), x ∈ M) a := by
  induction e with
  | @fin a e h =>
    intro M hM
    refine .fin e ⟨h, fun x hx => hM x ?_⟩
    cases a with
    | above s | nought s | goes m s => exact hx
    | neg _ | con _ _ | bnd _ _ _ => cases e
  | neg _ ih => exact fun hM => .neg (ih hM)
  | @con o l _ hl ih => exact fun hM => .con (fun c hc => ih c hc fun x hx => hM x (allNs_mem.mpr ⟨c, hc, hx⟩)) hl
/-! ### promises of the law's own looks -/
def sp_plain_is (n : Nat) (K : PySem.W.Frag) : Sp := fun vs H Q _ => ∃ (v : V) (nl : Addr) (a : Stm) (names : List Str), vs = [v, .ref nl] ∧ Dp K H v (toD a) ∧ SqL K H nl (names.map V.str) ∧ Evu (fun s => Norm s.2 ∧ ∀ p ∈ s.2, p.1 ∈ names ∧ p.1.cps.toList ≠ []) a ∧ plainB a = true ∧ dep a ≤ n ∧ Q (.bl true) H
/-- straight: no nought, not ahead of goes alone -/
inductive Strt : Stm → Prop
  | above {s : Sm} : Strt (.above s)
  | goes {m : Int} {s : Sm} : Strt (.goes m s)
  | ng {m : Int} {s : Sm} : Strt (.neg (.goes m s))
  | con {o : Bool} {l : List Stm} : (∀ a ∈ l, Strt a) → Strt (.con o l)
def sp_straight_is (n : Nat) (K : PySem.W.Frag) : Sp := fun vs H Q _ => ∃ (v : V) (a : Stm), vs = [v] ∧ Dp K H v (toD a) ∧ Strt a ∧ dep a ≤ n ∧ Q (.bl true) H
theorem tr_strt {nm : List Str} {N n : Nat} {a : Stm} (h : Tr (Satom nm N) n a) : Strt a := by
  induction h with
  | atom h _ => cases h <;> constructor
  | con _ _ ih => exact .con ih
theorem ft_strt {nm : List Str} {N n : Nat} {a : Stm} (h : FT (Satom nm N) n a) : Strt a := by
  rcases h with rfl | rfl | h
  · exact .con fun b hb => by cases hb
  · exact .con fun b hb => by cases hb
  · exact tr_strt h
def sp_refused6 (K : PySem.W.Frag) : Sp := fun vs H Q _ => ∃ (v : V) (a : Stm), vs = [v] ∧ Dp K H v (toD a) ∧ plainB a = false ∧ dep a ≤ 36 ∧ ∀ H', Same H H' → Q (.str "not plain") H'
end XS

namespace XS
open PySem PySem.Spec PyProof.Rows L2
/-- straight, names of some list -/
def sp_straightE (N : Nat) (K : PySem.W.Frag) (NP : Addr) : Sp := fun vs H Q E => ∃ nm : List Str, nm.length ≤ 32 ∧ sp_straight nm N K NP vs H Q E
end XS

namespace XH
open PySem PySem.Spec PyProof.Rows L2 He XS
/-- many yeses -/
def allB : List Bool → Bool
  | [] => true
  | b :: l => (match b with
    | true => allB l
    | false => false)
theorem allB_at {l : List Bool} (h : allB l = true) (i : Nat) {b : Bool} (e : l[i]? = some b) : b = true := by
  induction l generalizing i with
  | nil => cases e
  | cons c l ih =>
    cases c with
    | false => cases (show false = true from h)
    | true =>
      have h1 : allB l = true := h
      cases i with
      | zero => cases e; rfl
      | succ i => exact ih h1 i e
/-! ### the hook: what these names reach in two steps, and one more Bool of it -/
def asZ (g : Addr → Option Obj) (xs : List Str) : List Addr := mainGlobals :: xs.flatMap fun x => ga (frG g [mainGlobals]) x :: (match g (ga (frG g [mainGlobals]) x) with
  | some o => refsO o
  | none => [])
def frZ (g : Addr → Option Obj) (xs : List Str) : PySem.W.Frag := frG g (asZ g xs)
abbrev AlZ : Type := AlT × Bool
def obsZ (xs : List Str) (fa : List Fa) (fn : List DefD) (ts : List Tab) (ex : PySem.W.Frag → Bool) (g : Addr → Option Obj) : AlZ := (obsT fa fn ts (frZ g xs), ex (frZ g xs))
def hookZ (xs : List Str) (fa : List Fa) (fn : List DefD) (ts : List Tab) (ex : PySem.W.Frag → Bool) : PySem.W.Hook where
  α := AlZ
  obs := fun s => obsZ xs fa fn ts ex s.heap.get?
  val := fun w => (valT fn ts w, true)
  says := fun w h => ∃ K : PySem.W.Frag, K.In h ∧ SaysT fa fn ts w K ∧ ex K = true
  of := fun _ _ e => ⟨_, frG_in, congrArg (fun z : AlZ => z.1) e, congrArg (fun z : AlZ => z.2) e⟩
  keeps := fun _ _ _ ⟨K, hK, c⟩ k => ⟨K, PySem.W.Frag.In.keeps hK k, c⟩
theorem obsZ_eq {xs : List Str} {fa : List Fa} {fn : List DefD} {ts : List Tab} {ex : PySem.W.Frag → Bool} {g : Addr → Option Obj} {s : Shared} (h : ∀ a, g a = s.heap.get? a) : obsZ xs fa fn ts ex g = (hookZ xs fa fn ts ex).obs s := by
  have e : g = s.heap.get? := funext h
  rw [e] <;> rfl
theorem map3 {α β γ δ : Type} {o : Option α} {f : α → β} {g : α → γ} {k : α → δ} {a : β} {b : γ} {c : δ} (h1 : o.map f = some a) (h2 : o.map g = some b) (h3 : o.map k = some c) : o.map (fun x => (f x, g x, k x)) = some (a, b, c) := by
  cases o with
  | none => cases h1
  | some x =>
    obtain rfl := Option.some.inj h1
    obtain rfl := Option.some.inj h2
    obtain rfl := Option.some.inj h3
    rfl
/-! ### defs -/
def dD (x q : Str) (st : Stmt) : DefD := ⟨(x, none), q, q, defArgs st, defBody st, defScope st, [], []⟩
theorem fun_at {K : PySem.W.Frag} {x : Str} {st : Stmt} {f : Addr} {fd : FuncData} (F : FunD K x x (defArgs st) (defBody st) (defScope st) [] [] f fd) : Fun K x x st f fd := by
  obtain ⟨oc, od, dV, kV, doc, pm, an, cdv, ct, osl, e, lk, hc, hD, _⟩ := F.ex
  rcases hD with ⟨_, rfl⟩ | ⟨e, _⟩
  · exact ⟨⟨oc, od, kV, doc, pm, an, cdv, ct, osl, e, lk, hc⟩, F.kp⟩
  · exact absurd rfl e
section
variable {fa : List Fa} {fn : List DefD} {ts : List Tab} {w : World} {K : PySem.W.Frag} {h : Heap} {mg : Str → Option Value}
theorem f_at (X : K.In h) (G : h.Ns mainGlobals mg) (c : SaysT fa fn ts w K) (i : Nat) {x : Str} {st : Stmt} (hi : fn[i]? = some (dD x x st)) (g : (Fa.glo x).ok K = true) {ps : List Str}
    (hb : ∀ (kV doc pm : Value) (an : Option Addr) (cdv ct : Value) (us : List Value), us.length = ps.length → bindArgs (PySem.W.fnOf x x (defArgs st) (defBody st) (defScope st) .none kV doc pm an cdv ct) ⟨us, []⟩ = pure (ps.zip us)) : FunAt K mg x st ps := by
  obtain ⟨fd, F⟩ := c.d.def_ i hi
  exact ⟨_, fd, fun_at F, glo_ok X G g, F.bindsN hb⟩
theorem fs_at (X : K.In h) (G : h.Ns mainGlobals mg) (c : SaysT fa fn ts w K) (i : Nat) {x q : Str} {st : Stmt} (hi : fn[i]? = some (dD x q st)) (g : (Fa.glo x).ok K = true) {ps : List Str}
    (hb : ∀ (kV doc pm : Value) (an : Option Addr) (cdv ct : Value) (us : List Value), us.length = ps.length → bindArgs (PySem.W.fnOf q q (defArgs st) (defBody st) (defScope st) .none kV doc pm an cdv ct) ⟨us, []⟩ = pure (ps.zip us)) : FunAs K mg x q st ps := by
  obtain ⟨fd, F⟩ := c.d.def_ i hi
  exact ⟨_, fd, fun_at F, glo_ok X G g, F.bindsN hb⟩
theorem law_at (X : K.In h) (G : h.Ns mainGlobals mg) (c : SaysT fa fn ts w K) (i : Nat) {x p : Str} {st : Stmt} (hi : fn[i]? = some (dD x x st)) (g : (Fa.glo x).ok K = true) {f : Addr} (hf : mg x = some (.ref f))
    (hb : ∀ (kV doc pm : Value) (an : Option Addr) (cdv ct : Value) (us : List Value), us.length = [p].length → bindArgs (PySem.W.fnOf x x (defArgs st) (defBody st) (defScope st) .none kV doc pm an cdv ct) ⟨us, []⟩ = pure ([p].zip us)) :
    ∃ fd, Fun K x x st f fd ∧ ∀ (s : Shared) (v : Value), BindsTo s fd ⟨[v], []⟩ [(p, v)] := by
  obtain ⟨fd, F⟩ := c.d.def_ i hi
  have e := hf.symm.trans (glo_ok X G g)
  cases e
  have b := FunD.bindsA (ps := [p]) F hb
  exact ⟨fd, fun_at F, fun s v => b s [v] rfl⟩
end
/-! ### tuples by address -/
def tupA (K : PySem.W.Frag) (a : Addr) (vs : List V) : Bool := match K.lookup a with
  | some o => (match o.cls with
    | .type c => (match o.data with
      | .seq its _ => decide (c = "tuple") && (decide (its.size ≤ sizeLine) && relAll vs its.toList)
      | _ => false)
    | _ => false)
  | none => false
theorem tupA_ok {K : PySem.W.Frag} {a : Addr} {vs : List V} (h : tupA K a vs = true) (H : Hp) : SqT K H a vs := by
  unfold tupA at h
  cases q : K.lookup a with
  | none => rw [q] at h; cases h
  | some o =>
    rw [q] at h
    obtain ⟨oc, od, dt, osl⟩ := o
    cases oc with
    | type c =>
      cases dt with
      | seq its n =>
        obtain ⟨h1, h2⟩ := ba (show (decide (c = "tuple") && (decide (its.size ≤ sizeLine) && relAll vs its.toList)) = true from h)
        obtain ⟨h3, h4⟩ := ba h2
        exact .inr ⟨_, its, n, q, congrArg Value.type (of_decide_eq_true h1), rfl, of_decide_eq_true h3, relAll_ok h4⟩
      | _ => cases h
    | _ => cases h
/-- the i-th item's address -/
def itA (K : PySem.W.Frag) (a : Addr) (i : Nat) : Addr := match K.lookup a with
  | some o => (match o.data with
    | .seq its _ => (match its.toList[i]? with
      | some (.ref b) => b
      | _ => 0)
    | _ => 0)
  | none => 0
/-! ### the classes of errors -/
def ecL (K : PySem.W.Frag) (D : Addr) : List Bool := [
  PySem.W.excIn K D [.type "ValueError", .type "Exception", .type "BaseException", .type "object"] "ValueError.__new__",
  PySem.W.keepIn K (.ref D), decide (PySem.W.subIn K (.ref D) (.type "BaseException") = some true), decide (PySem.W.typeIn K (.ref D) = some (.type "type")), PySem.W.hasDictIn K D,
  decide (PySem.W.findIn K (.ref D) "__getattribute__" = some (some (.builtin "BaseException.__getattribute__"))), decide (PySem.W.findIn K (.ref D) "__getattr__" = some none), decide (PySem.W.findIn K (.ref D) "__class__" = some (some (.builtin "object.__class__"))),
  decide (PySem.W.mroIn K D (.type "object") = some true), decide (PySem.W.subIn K (.ref D) (.type "ValueError") = some true), decide (PySem.W.subIn K (.ref D) (.ref D) = some true)]
theorem ec_ok {K : PySem.W.Frag} {D : Addr} (h : allB (ecL K D) = true) : EcF K D :=
  ⟨allB_at h 0 rfl, allB_at h 1 rfl, of_decide_eq_true (allB_at h 2 rfl), of_decide_eq_true (allB_at h 3 rfl), allB_at h 4 rfl, of_decide_eq_true (allB_at h 5 rfl), of_decide_eq_true (allB_at h 6 rfl), of_decide_eq_true (allB_at h 7 rfl), of_decide_eq_true (allB_at h 8 rfl), of_decide_eq_true (allB_at h 9 rfl), of_decide_eq_true (allB_at h 10 rfl)⟩
def subE (K : PySem.W.Frag) (a b : Addr) (v : Bool) : Bool := decide (PySem.W.subIn K (.ref a) (.ref b) = some v)
def neA (a b : Addr) : Bool := !(Value.ref a == Value.ref b)
theorem neA_ok {a b : Addr} (h : neA a b = true) : (Value.ref a == Value.ref b) = false := by
  unfold neA at h
  cases q : (Value.ref a == Value.ref b) with
  | false => rfl
  | true => rw [q] at h; cases h
def errL (K : PySem.W.Frag) : List Bool := [
  (Fa.glo "SomeError").ok K, (Fa.glo "NoValue").ok K, (Fa.glo "NotPlain").ok K, (Fa.glo "NoNote").ok K,
  decide (PySem.W.specialIn K (.builtin "object.__class__") "__get__" = some (some (.builtin "getset_descriptor.__get__"))), decide (PySem.W.takesIn K (.builtin "object.__class__") = some true),
  decide (PySem.W.subIn K (.ref (ga K "SomeError")) (.type "BaseException") = some true), PySem.W.hasDictIn K (ga K "SomeError"), decide (PySem.W.typeIn K (.ref (ga K "SomeError")) = some (.type "type")),
  allB (ecL K (ga K "NoValue")), allB (ecL K (ga K "NotPlain")), allB (ecL K (ga K "NoNote")),
  subE K (ga K "NoValue") (ga K "SomeError") true, subE K (ga K "NotPlain") (ga K "SomeError") true, subE K (ga K "NoNote") (ga K "SomeError") true,
  subE K (ga K "NoValue") (ga K "NotPlain") false, subE K (ga K "NoValue") (ga K "NoNote") false, subE K (ga K "NotPlain") (ga K "NoValue") false, subE K (ga K "NotPlain") (ga K "NoNote") false, subE K (ga K "NoNote") (ga K "NoValue") false, subE K (ga K "NoNote") (ga K "NotPlain") false,
  neA (ga K "NoValue") (ga K "NotPlain"), neA (ga K "NoValue") (ga K "NoNote"), neA (ga K "NotPlain") (ga K "NoValue"), neA (ga K "NotPlain") (ga K "NoNote"), neA (ga K "NoNote") (ga K "NoValue"), neA (ga K "NoNote") (ga K "NotPlain")]
theorem err_ok {K : PySem.W.Frag} {h : Heap} {mg : Str → Option Value} (X : K.In h) (G : h.Ns mainGlobals mg) (c : allB (errL K) = true) : Er K mg (ga K "SomeError") (ga K "NoValue") (ga K "NotPlain") (ga K "NoNote") :=
  er_mk (glo_ok X G (allB_at c 0 rfl)) (glo_ok X G (allB_at c 1 rfl)) (glo_ok X G (allB_at c 2 rfl)) (glo_ok X G (allB_at c 3 rfl)) (of_decide_eq_true (allB_at c 4 rfl)) (of_decide_eq_true (allB_at c 5 rfl)) (of_decide_eq_true (allB_at c 6 rfl)) (allB_at c 7 rfl) (of_decide_eq_true (allB_at c 8 rfl))
    (ec_ok (allB_at c 9 rfl)) (ec_ok (allB_at c 10 rfl)) (ec_ok (allB_at c 11 rfl)) (of_decide_eq_true (allB_at c 12 rfl)) (of_decide_eq_true (allB_at c 13 rfl)) (of_decide_eq_true (allB_at c 14 rfl)) (of_decide_eq_true (allB_at c 15 rfl)) (of_decide_eq_true (allB_at c 16 rfl)) (of_decide_eq_true (allB_at c 17 rfl))
    (of_decide_eq_true (allB_at c 18 rfl)) (of_decide_eq_true (allB_at c 19 rfl)) (of_decide_eq_true (allB_at c 20 rfl)) (neA_ok (allB_at c 21 rfl)) (neA_ok (allB_at c 22 rfl)) (neA_ok (allB_at c 23 rfl)) (neA_ok (allB_at c 24 rfl)) (neA_ok (allB_at c 25 rfl)) (neA_ok (allB_at c 26 rfl))
/-! ### constants -/
def conL (K : PySem.W.Frag) : List Bool := [
  (Fa.glo "OVER_SUMS").ok K, (Fa.glo "BINDING").ok K, tupA K (ga K "OVER_SUMS") [.str "above", .str "nought", .str "goes"], tupA K (ga K "BINDING") [.str "some", .str "all"]]
theorem con_ok {K : PySem.W.Frag} {h : Heap} {mg : Str → Option Value} (X : K.In h) (G : h.Ns mainGlobals mg) (c : allB (conL K) = true) : Cs K mg (ga K "OVER_SUMS") (ga K "BINDING") :=
  ⟨glo_ok X G (allB_at c 0 rfl), glo_ok X G (allB_at c 1 rfl), tupA_ok (allB_at c 2 rfl), tupA_ok (allB_at c 3 rfl)⟩
def tfL (K : PySem.W.Frag) : List Bool := [
  (Fa.glo "TRUE").ok K, (Fa.glo "FALSE").ok K, (Fa.glo "OTHER").ok K,
  tupA K (ga K "TRUE") [.str "and", .ref (itA K (ga K "TRUE") 1)], tupA K (itA K (ga K "TRUE") 1) [], tupA K (ga K "FALSE") [.str "or", .ref (itA K (ga K "FALSE") 1)], tupA K (itA K (ga K "FALSE") 1) [],
  valsB K (ga K "OTHER") [("and", .str "or"), ("or", .str "and")],
  decide (PySem.W.nsIn K (ga K "OTHER") "above" = some none), decide (PySem.W.nsIn K (ga K "OTHER") "nought" = some none), decide (PySem.W.nsIn K (ga K "OTHER") "goes" = some none), decide (PySem.W.nsIn K (ga K "OTHER") "not" = some none),
  decide (PySem.W.nsIn K (ga K "OTHER") "some" = some none), decide (PySem.W.nsIn K (ga K "OTHER") "all" = some none)]
theorem tf_ok {K : PySem.W.Frag} {w : World} {h : Heap} {mg : Str → Option Value} (X : K.In h) (G : h.Ns mainGlobals mg) (c : allB (tfL K) = true) (t : ∃ es n, KDict K w (ga K "OTHER") es n) : Ct K w mg (ga K "TRUE") (ga K "FALSE") (ga K "OTHER") := by
  obtain ⟨es, n, D⟩ := t
  have vv := allB_at c 7 rfl
  have no : ∀ x : Str, PySem.W.nsIn K (ga K "OTHER") x = some none → KHas K w (ga K "OTHER") x false := fun x e => ⟨es, n, _, D.at_, D.lit, D.low, e, rfl⟩
  have dct : ∀ o, KDct K w (ga K "OTHER") (conW o) (.str (conW (!o))) := fun o => by
    obtain ⟨u, e1, e2⟩ := valsB_ok vv (q := (conW o, .str (conW (!o)))) (by cases o; exact .tail _ (.head _); exact .head _)
    exact ⟨es, n, u, D.at_, D.lit, e1, e2⟩
  refine ⟨glo_ok X G (allB_at c 0 rfl), glo_ok X G (allB_at c 1 rfl), glo_ok X G (allB_at c 2 rfl), fun H => ?_, fun H => ?_, fun o => ?_, fun x hx => ?_, dct⟩
  · exact .tup (tupA_ok (allB_at c 3 rfl) H) (.cons (.str _) (.one (.tup (tupA_ok (allB_at c 4 rfl) H) .nil)))
  · exact .tup (tupA_ok (allB_at c 5 rfl) H) (.cons (.str _) (.one (.tup (tupA_ok (allB_at c 6 rfl) H) .nil)))
  · obtain ⟨_, _, u, _, _, e, _⟩ := dct o
    exact ⟨es, n, _, D.at_, D.lit, D.low, e, rfl⟩
  · simp only [List.mem_cons, List.not_mem_nil, or_false] at hx
    rcases hx with rfl | rfl | rfl | rfl | rfl | rfl
    · exact no _ (of_decide_eq_true (allB_at c 8 rfl))
    · exact no _ (of_decide_eq_true (allB_at c 9 rfl))
    · exact no _ (of_decide_eq_true (allB_at c 10 rfl))
    · exact no _ (of_decide_eq_true (allB_at c 11 rfl))
    · exact no _ (of_decide_eq_true (allB_at c 12 rfl))
    · exact no _ (of_decide_eq_true (allB_at c 13 rfl))
/-- a built-in of a module -/
def bltB (K : PySem.W.Frag) (x : Str) (b : String) : Bool := decide (PySem.W.nsIn K mainGlobals x = some (some (.builtin b)))
theorem blt_ok {K : PySem.W.Frag} {h : Heap} {mg : Str → Option Value} (X : K.In h) (G : h.Ns mainGlobals mg) {x : Str} {b : String} (c : bltB K x b = true) : mg x = some (.builtin b) := PySem.W.mg_of X G (of_decide_eq_true c)
/-! ### built-in names -/
def blL : List Str := ["ValueError", "len", "isinstance", "int", "str", "bool", "list", "tuple", "dict", "set", "range", "sorted", "sum"]
def bl2L : List Str := ["abs", "max", "min"]
def freeB (K : PySem.W.Frag) (xs : List Str) : Bool := xs.all fun x => (Fa.free x).ok K
theorem free_at {K : PySem.W.Frag} {h : Heap} {mg : Str → Option Value} (X : K.In h) (G : h.Ns mainGlobals mg) {xs : List Str} (c : freeB K xs = true) (i : Nat) {x : Str} (e : xs[i]? = some x) : mg x = none :=
  free_ok X G (List.all_eq_true.mp c x (List.mem_of_getElem? e))
theorem bl_ok {K : PySem.W.Frag} {h : Heap} {mg : Str → Option Value} (X : K.In h) (G : h.Ns mainGlobals mg) (c : freeB K blL = true) : Bl mg := by
  constructor
  · exact free_at X G c 0 rfl
  · exact free_at X G c 1 rfl
  · exact free_at X G c 2 rfl
  · exact free_at X G c 3 rfl
  · exact free_at X G c 4 rfl
  · exact free_at X G c 5 rfl
  · exact free_at X G c 6 rfl
  · exact free_at X G c 7 rfl
  · exact free_at X G c 8 rfl
  · exact free_at X G c 9 rfl
  · exact free_at X G c 10 rfl
  · exact free_at X G c 11 rfl
  · exact free_at X G c 12 rfl
theorem bl2_ok {K : PySem.W.Frag} {h : Heap} {mg : Str → Option Value} (X : K.In h) (G : h.Ns mainGlobals mg) (c : freeB K bl2L = true) : Bl2 mg :=
  ⟨free_at X G c 0 rfl, free_at X G c 1 rfl, free_at X G c 2 rfl⟩
end XH

namespace XY
open PySem PySem.Spec PyProof.Rows L2 XS
/-! ### words: numbers, names -/
def dig (c : Nat) : Bool := decide (48 ≤ c) && decide (c ≤ 57)
def low (c : Nat) : Bool := decide (97 ≤ c) && decide (c ≤ 122)
def cs (w : Str) : List Nat := w.cps.toList
/-- the figures: behind a - -/
def figs : List Nat → List Nat
  | 45 :: r => r
  | l => l
def numOk (l : List Nat) : Bool := decide (1 ≤ (figs l).length) && decide ((figs l).length ≤ 60) && (figs l).all dig && !(decide ((figs l).head? = some 48) && decide (l ≠ [48]))
def nameOk (l : List Nat) : Bool := decide (1 ≤ l.length) && decide (l.length ≤ 8) && l.all low
instance (a b : Str) : Decidable (slt a b) := inferInstanceAs (Decidable (_ = true))
def num (w : Str) : Option Int := if numOk (cs w) = true then intText? w else none
theorem figs_cases (l : List Nat) : (∃ r, l = 45 :: r ∧ figs l = r) ∨ (figs l = l ∧ ∀ r, l ≠ 45 :: r) := by
  cases l with
  | nil => exact .inr ⟨rfl, fun r h => by cases h⟩
  | cons c r =>
    by_cases h : c = 45
    · subst h
      exact .inl ⟨r, rfl, rfl⟩
    · refine .inr ⟨?_, fun r' e => by cases e; exact h rfl⟩
      unfold figs
      split
      · rename_i e
        cases e
        exact absurd rfl h
      · rfl
theorem all_dig {l : List Nat} (h : l.all dig = true) : NumText.AllDigits l := fun c hc => by
  have := List.all_eq_true.mp h c hc
  unfold dig at this
  simp only [Bool.and_eq_true, decide_eq_true_eq] at this
  omega
/-- figures have a value -/
theorem num_some {w : Str} (h : numOk (cs w) = true) : ∃ n, intText? w = some n ∧ num w = some n := by
  have e0 : num w = intText? w := if_pos h
  unfold numOk at h
  simp only [Bool.and_eq_true, decide_eq_true_eq] at h
  obtain ⟨⟨⟨h1, h2⟩, h3⟩, _⟩ := h
  have hl : (cs w).length = w.length := Array.length_toList
  rcases figs_cases (cs w) with ⟨r, e, er⟩ | ⟨e, _⟩
  · rw [er] at h1 h2 h3
    have := intText_neg (x := w) e (all_dig h3) (by intro z; rw [z] at h1; simp at h1) (by rw [← hl, e]; simp; omega)
    exact ⟨_, this, e0.trans this⟩
  · rw [e] at h1 h2 h3
    have := intText_digits (x := w) (all_dig h3) (by intro z; rw [show cs w = [] from z] at h1; simp at h1) (by rw [← hl]; omega)
    exact ⟨_, this, e0.trans this⟩
theorem num_len {w : Str} (h : numOk (cs w) = true) : w.length ≤ 61 := by
  unfold numOk at h
  simp only [Bool.and_eq_true, decide_eq_true_eq] at h
  obtain ⟨⟨⟨h1, h2⟩, h3⟩, _⟩ := h
  have hl : (cs w).length = w.length := Array.length_toList
  rcases figs_cases (cs w) with ⟨r, e, er⟩ | ⟨e, _⟩
  · rw [er] at h2
    rw [← hl, e]
    simp
    omega
  · rw [e] at h2
    omega
theorem num_none {w : Str} (h : numOk (cs w) = false) : num w = none := by
  unfold num
  rw [h]
  rfl
/-! ### the reading of words -/
/-- shares: number and name, by turns, to the ; -/
def pPs (last : Option Str) : List Str → Option (List Pr × List Str)
  | [] => none
  | w :: r => if w = ";" then some ([], r) else match num w with
    | none => none
    | some k => (match r with
      | [] => none
      | x :: r' => if nameOk (cs x) = true ∧ k ≠ 0 ∧ (∀ y, last = some y → slt y x) then (pPs (some x) r').map fun q => ((x, k) :: q.1, q.2) else none)
def pSum : List Str → Option (Sm × List Str)
  | [] => none
  | w :: r => match num w with
    | none => none
    | some k => (pPs none r).map fun q => ((k, q.1), q.2)
/-- so many statements -/
def pP (f : List Str → Option (Stm × List Str)) : Nat → Nat → List Str → Option (List Stm × List Str)
  | _, 0, ws => some ([], ws)
  | 0, _ + 1, _ => none
  | m + 1, k + 1, ws => match f ws with
    | none => none
    | some q => (pP f m k q.2).map fun (z : List Stm × List Str) => (q.1 :: z.1, z.2)
def pS : Nat → List Str → Option (Stm × List Str)
  | 0, _ => none
  | _ + 1, [] => none
  | n + 1, w :: r =>
    if w = "above" then (pSum r).map fun q => (.above q.1, q.2)
    else if w = "nought" then (pSum r).map fun q => (.nought q.1, q.2)
    else if w = "goes" then (match r with
      | [] => none
      | d :: r' => match num d with
        | none => none
        | some m => if 1 ≤ m then (pSum r').map fun q => (.goes m q.1, q.2) else none)
    else if w = "not" then (pS n r).map fun q => (.neg q.1, q.2)
    else if w = "some" ∨ w = "all" then (match r with
      | [] => none
      | x :: r' => if nameOk (cs x) = true then (pS n r').map fun q => (.bnd (decide (w = "all")) x q.1, q.2) else none)
    else if w = "and" ∨ w = "or" then (match r with
      | [] => none
      | c :: r' => match num c with
        | none => none
        | some k => if 0 ≤ k then (pP (pS n) r'.length k.toNat r').map fun q => (.con (decide (w = "and")) q.1, q.2) else none)
    else none
theorem pS_cons (n : Nat) (w : Str) (r : List Str) : pS (n + 1) (w :: r) = (
    if w = "above" then (pSum r).map fun q => (.above q.1, q.2)
    else if w = "nought" then (pSum r).map fun q => (.nought q.1, q.2)
    else if w = "goes" then (match r with
      | [] => none
      | d :: r' => match num d with
        | none => none
        | some m => if 1 ≤ m then (pSum r').map fun q => (.goes m q.1, q.2) else none)
    else if w = "not" then (pS n r).map fun q => (.neg q.1, q.2)
    else if w = "some" ∨ w = "all" then (match r with
      | [] => none
      | x :: r' => if nameOk (cs x) = true then (pS n r').map fun q => (.bnd (decide (w = "all")) x q.1, q.2) else none)
    else if w = "and" ∨ w = "or" then (match r with
      | [] => none
      | c :: r' => match num c with
        | none => none
        | some k => if 0 ≤ k then (pP (pS n) r'.length k.toNat r').map fun q => (.con (decide (w = "and")) q.1, q.2) else none)
    else none) := rfl
/-- a rest, behind one word or more -/
def Suf (r l : List Str) : Prop := ∃ p, p ≠ [] ∧ l = p ++ r
theorem Suf.len {r l : List Str} (h : Suf r l) : r.length < l.length := by
  obtain ⟨p, hp, rfl⟩ := h
  have := List.length_pos_iff.mpr hp
  rw [List.length_append]
  omega
theorem Suf.cons {r l : List Str} {w : Str} (h : Suf r l) : Suf r (w :: l) := by
  obtain ⟨p, hp, rfl⟩ := h
  exact ⟨w :: p, by simp, rfl⟩
theorem Suf.one {l : List Str} {w : Str} : Suf l (w :: l) := ⟨[w], by simp, rfl⟩
theorem Suf.trans {r l m : List Str} (h : Suf r l) (k : Suf l m) : Suf r m := by
  obtain ⟨p, hp, rfl⟩ := h
  obtain ⟨q, hq, rfl⟩ := k
  exact ⟨q ++ p, by simp [hq], by rw [List.append_assoc]⟩
/-- where a rest stands -/
theorem Suf.at_ {r l : List Str} {ws : List Str} {i : Nat} (h : Suf r l) (hl : l = ws.drop i) : ∃ j, i < j ∧ j ≤ ws.length ∧ r = ws.drop j := by
  obtain ⟨p, hp, rfl⟩ := h
  have hp' := List.length_pos_iff.mpr hp
  have hlen := congrArg List.length hl
  rw [List.length_append, List.length_drop] at hlen
  refine ⟨i + p.length, by omega, by omega, ?_⟩
  rw [← List.drop_drop, ← hl]
  simp
theorem pPs_suf : ∀ (n : Nat) (ws : List Str), ws.length ≤ n → ∀ (last : Option Str) (l : List Pr) (r : List Str), pPs last ws = some (l, r) → Suf r ws := by
  intro n
  induction n with
  | zero =>
    intro ws h last l r e
    cases ws with
    | nil => cases e
    | cons _ _ => simp at h
  | succ n ih =>
    intro ws h last l r e
    cases ws with
    | nil => cases e
    | cons w ws =>
      unfold pPs at e
      split at e
      · cases e; exact .one
      · split at e
        · cases e
        · split at e
          · cases e
          · rename_i x r'
            split at e
            · obtain ⟨q, hq, eq⟩ := Option.map_eq_some_iff.mp e
              cases eq
              have := ih r' (by simp at h; omega) _ q.1 q.2 hq
              exact this.cons.cons
            · cases e
theorem pSum_suf {ws : List Str} {s : Sm} {r : List Str} (e : pSum ws = some (s, r)) : Suf r ws := by
  cases ws with
  | nil => cases e
  | cons w ws =>
    cases hk : num w with
    | none => rw [pSum, hk] at e; cases e
    | some k =>
      rw [pSum, hk] at e
      obtain ⟨q, hq, eq⟩ := Option.map_eq_some_iff.mp (show ((pPs none ws).map fun q => ((k, q.1), q.2)) = some (s, r) from e)
      cases eq
      exact (pPs_suf _ ws (Nat.le_refl _) _ q.1 q.2 hq).cons
/-- rests, or all of it -/
def SufE (r l : List Str) : Prop := r = l ∨ Suf r l
theorem pP_suf {f : List Str → Option (Stm × List Str)} (hf : ∀ ws a r, f ws = some (a, r) → Suf r ws) : ∀ (m k : Nat) (ws : List Str) (l : List Stm) (r : List Str), pP f m k ws = some (l, r) → SufE r ws := by
  intro m
  induction m with
  | zero =>
    intro k ws l r e
    cases k with
    | zero => cases e; exact .inl rfl
    | succ k => cases e
  | succ m ih =>
    intro k ws l r e
    cases k with
    | zero => cases e; exact .inl rfl
    | succ k =>
      unfold pP at e
      split at e
      · cases e
      · rename_i q hq
        obtain ⟨z, hz, ez⟩ := Option.map_eq_some_iff.mp e
        cases ez
        have h1 := hf ws q.1 q.2 hq
        rcases ih k q.2 z.1 z.2 hz with h2 | h2
        · rw [h2]; exact .inr h1
        · exact .inr (h2.trans h1)
theorem pS_suf : ∀ (n : Nat) (ws : List Str) (a : Stm) (r : List Str), pS n ws = some (a, r) → Suf r ws := by
  intro n
  induction n with
  | zero => intro ws a r e; cases e
  | succ n ih =>
    intro ws a r e
    cases ws with
    | nil => cases e
    | cons w ws =>
      unfold pS at e
      have sm : ∀ {us : List Str} {g : Sm → Stm}, ((pSum us).map fun q => (g q.1, q.2)) = some (a, r) → Suf r us := fun h => by
        obtain ⟨q, hq, eq⟩ := Option.map_eq_some_iff.mp h
        cases eq
        exact pSum_suf hq
      have st : ∀ {us : List Str} {g : Stm → Stm}, ((pS n us).map fun q => (g q.1, q.2)) = some (a, r) → Suf r us := fun h => by
        obtain ⟨q, hq, eq⟩ := Option.map_eq_some_iff.mp h
        cases eq
        exact ih _ _ _ hq
      split at e
      · exact (sm e).cons
      split at e
      · exact (sm e).cons
      split at e
      · split at e
        · cases e
        · split at e
          · cases e
          · split at e
            · exact (sm e).cons.cons
            · cases e
      split at e
      · exact (st e).cons
      split at e
      · split at e
        · cases e
        · split at e
          · exact (st e).cons.cons
          · cases e
      split at e
      · split at e
        · cases e
        · split at e
          · cases e
          · split at e
            · obtain ⟨q, hq, eq⟩ := Option.map_eq_some_iff.mp e
              cases eq
              rcases pP_suf ih _ _ _ _ _ hq with h | h
              · rw [h]; exact Suf.one.cons
              · exact h.cons.cons
            · cases e
      · cases e
/-- words enough for the count: the fuel doesn't matter -/
theorem pP_fuel {f : List Str → Option (Stm × List Str)} (hf : ∀ ws a r, f ws = some (a, r) → Suf r ws) : ∀ (m m' k : Nat) (ws : List Str), ws.length ≤ m → ws.length ≤ m' → f [] = none → pP f m k ws = pP f m' k ws := by
  intro m
  induction m with
  | zero =>
    intro m' k ws h h' hn
    have : ws = [] := List.length_eq_zero_iff.mp (by omega)
    subst this
    cases k with
    | zero => cases m' <;> rfl
    | succ k =>
      cases m' with
      | zero => rfl
      | succ m' => show none = (match f [] with | none => none | some q => _); rw [hn]
  | succ m ih =>
    intro m' k ws h h' hn
    cases k with
    | zero => cases m' <;> rfl
    | succ k =>
      cases m' with
      | zero =>
        have : ws = [] := List.length_eq_zero_iff.mp (by omega)
        subst this
        show (match f [] with | none => none | some q => _) = none
        rw [hn]
      | succ m' =>
        show (match f ws with | none => none | some q => (pP f m k q.2).map fun (z : List Stm × List Str) => (q.1 :: z.1, z.2)) = (match f ws with | none => none | some q => (pP f m' k q.2).map fun (z : List Stm × List Str) => (q.1 :: z.1, z.2))
        cases e : f ws with
        | none => rfl
        | some q =>
          have := (hf ws q.1 q.2 e).len
          show ((pP f m k q.2).map _) = ((pP f m' k q.2).map _)
          rw [ih m' k q.2 (by omega) (by omega) hn]
theorem pS_nil (n : Nat) : pS n [] = none := by cases n <;> rfl
/-- the loop over parts, one more -/
theorem pP_step {f : List Str → Option (Stm × List Str)} (hf : ∀ ws a r, f ws = some (a, r) → Suf r ws) (hn : f [] = none) {k : Nat} {ws : List Str} : pP f ws.length (k + 1) ws = match f ws with
    | none => none
    | some q => (pP f q.2.length k q.2).map fun (z : List Stm × List Str) => (q.1 :: z.1, z.2) := by
  cases ws with
  | nil => show none = _; rw [hn]
  | cons w ws =>
    show (match f (w :: ws) with | none => none | some q => (pP f ws.length k q.2).map fun (z : List Stm × List Str) => (q.1 :: z.1, z.2)) = _
    cases e : f (w :: ws) with
    | none => rfl
    | some q =>
      have := (hf _ q.1 q.2 e).len
      simp at this
      show ((pP f ws.length k q.2).map _) = ((pP f q.2.length k q.2).map _)
      rw [pP_fuel hf ws.length q.2.length k q.2 (by omega) (Nat.le_refl _) hn]
end XY

namespace XY
open PySem PySem.Spec PyProof.Rows L2 XS
/-! ### the texts of numbers -/
def nS (n : Int) : Str := Str.ofString (toString n)
theorem cs_nat (m : Nat) : cs (nS (m : Int)) = TL.numL m := TL.tl_num m
theorem cs_neg (m : Nat) : cs (nS (Int.negSucc m)) = 45 :: TL.numL (m + 1) := by
  show TL.tl (Str.ofString (toString (Int.negSucc m))) = _
  have e : toString (Int.negSucc m) = "-" ++ Nat.repr (m + 1) := rfl
  rw [e, TL.tl_ofString, String.toList_append, List.map_append]
  have e2 := TL.tl_num (m + 1)
  rw [TL.tl_ofString] at e2
  have e3 : (Nat.repr (m + 1)).toList.map Char.toNat = TL.numL (m + 1) := e2
  rw [e3]
  rfl
theorem numL_dig (m : Nat) : (TL.numL m).all dig = true := List.all_eq_true.mpr fun c hc => by
  have := TL.numL_digits m c hc
  unfold dig
  simp only [Bool.and_eq_true, decide_eq_true_eq]
  omega
/-- no 0 ahead -/
theorem numL_head : ∀ (n m : Nat), m ≤ n → 0 < m → (TL.numL m).head? ≠ some 48 := by
  intro n
  induction n with
  | zero => intro m h h0; omega
  | succ n ih =>
    intro m h h0
    by_cases hm : m < 10
    · rw [TL.numL_lt hm]
      simp
      omega
    · rw [TL.numL_step (by omega)]
      have h1 := ih (m / 10) (by omega) (by omega)
      have h2 := TL.numL_ne (m / 10)
      cases e : TL.numL (m / 10) with
      | nil => exact absurd e h2
      | cons c r => rw [e] at h1; simpa using h1
theorem figs_nat (m : Nat) : figs (TL.numL m) = TL.numL m := by
  have h := numL_dig m
  cases e : TL.numL m with
  | nil => rfl
  | cons c r =>
    rw [e, List.all_cons] at h
    unfold figs
    split
    · rename_i h2
      cases h2
      simp [dig] at h
    · rfl
theorem numOk_nat {m : Nat} (h : m < 10 ^ 60) : numOk (TL.numL m) = true := by
  have h1 := TL.numL_len (by decide) h
  have h2 := List.length_pos_iff.mpr (TL.numL_ne m)
  unfold numOk
  rw [figs_nat, numL_dig m, decide_eq_true h1, decide_eq_true (show 1 ≤ (TL.numL m).length by omega)]
  by_cases h0 : m = 0
  · subst h0
    rw [TL.numL_lt (by decide)]
    decide
  · rw [decide_eq_false (numL_head m m (Nat.le_refl _) (by omega))]
    rfl
theorem numOk_neg {m : Nat} (h : m < 10 ^ 60) (h0 : 0 < m) : numOk (45 :: TL.numL m) = true := by
  have h1 := TL.numL_len (by decide) h
  have h2 := List.length_pos_iff.mpr (TL.numL_ne m)
  unfold numOk
  have e : figs (45 :: TL.numL m) = TL.numL m := rfl
  rw [e, numL_dig m, decide_eq_true h1, decide_eq_true (show 1 ≤ (TL.numL m).length by omega), decide_eq_false (numL_head m m (Nat.le_refl _) h0)]
  rfl
/-- a number that is written is read again -/
theorem num_nS {n : Int} (h : n.natAbs < 10 ^ 60) : num (nS n) = some n := by
  cases n with
  | ofNat m =>
    have hm : m < 10 ^ 60 := h
    have h1 := TL.numL_len (by decide) hm
    have e : numOk (cs (nS (Int.ofNat m))) = true := by rw [show cs (nS (Int.ofNat m)) = TL.numL m from cs_nat m]; exact numOk_nat hm
    show (if numOk (cs (nS (Int.ofNat m))) = true then intText? (nS (Int.ofNat m)) else none) = _
    rw [if_pos e]
    exact TL.int_num (by omega)
  | negSucc m =>
    have hm : m + 1 < 10 ^ 60 := h
    have h1 := TL.numL_len (by decide) hm
    have ec := cs_neg m
    have e : numOk (cs (nS (Int.negSucc m))) = true := by rw [ec]; exact numOk_neg hm (by omega)
    show (if numOk (cs (nS (Int.negSucc m))) = true then intText? (nS (Int.negSucc m)) else none) = _
    rw [if_pos e]
    have hl : (nS (Int.negSucc m)).length = (cs (nS (Int.negSucc m))).length := Array.length_toList.symm
    rw [intText_neg ec (TL.numL_digits (m + 1)) (TL.numL_ne _) (by rw [hl, ec]; simp; omega), TL.numL_val]
    rfl
theorem nS_len {n : Int} (h : n.natAbs < 10 ^ 60) : (nS n).length ≤ 61 := by
  have e := num_nS h
  by_cases hk : numOk (cs (nS n)) = true
  · exact num_len hk
  · rw [num_none (by simpa using hk)] at e
    cases e
theorem numOk_free {w : Str} (h : numOk (cs w) = true) : 32 ∉ cs w ∧ w ≠ ";" := by
  have k : ∀ c ∈ cs w, c = 45 ∨ (48 ≤ c ∧ c ≤ 57) := fun c hc => by
    unfold numOk at h
    simp only [Bool.and_eq_true] at h
    have h3 := all_dig h.1.2
    rcases figs_cases (cs w) with ⟨r, e, er⟩ | ⟨e, _⟩
    · rw [e] at hc
      rcases List.mem_cons.mp hc with rfl | hc
      · exact .inl rfl
      · rw [er] at h3
        exact .inr (h3 c hc)
    · rw [e] at h3
      exact .inr (h3 c hc)
  refine ⟨fun hc => ?_, fun e => ?_⟩
  · have := k 32 hc
    omega
  · subst e
    have := k 59 (by decide +kernel)
    omega
theorem numOk_nS {n : Int} (h : n.natAbs < 10 ^ 60) : numOk (cs (nS n)) = true := by
  have e := num_nS h
  by_cases hk : numOk (cs (nS n)) = true
  · exact hk
  · rw [num_none (by simpa using hk)] at e
    cases e
/-! ### the writing -/
def wPs (ps : List Pr) : List Str := ps.flatMap fun p => [nS p.2, p.1]
def wSum (s : Sm) : List Str := nS s.1 :: (wPs s.2 ++ [(";" : Str)])
mutual
def wds : Stm → List Str
  | .above s => "above" :: wSum s
  | .nought s => "nought" :: wSum s
  | .goes m s => "goes" :: nS m :: wSum s
  | .neg a => "not" :: wds a
  | .con o l => conW o :: nS l.length :: wdss l
  | .bnd o x a => bndW o :: x :: wds a
def wdss : List Stm → List Str
  | [] => []
  | a :: l => wds a ++ wdss l
end
theorem wdss_app : ∀ l m : List Stm, wdss (l ++ m) = wdss l ++ wdss m
  | [], m => rfl
  | a :: l, m => by
    show wds a ++ wdss (l ++ m) = (wds a ++ wdss l) ++ wdss m
    rw [wdss_app l m, List.append_assoc]
/-- a sum that can be written and read -/
structure NSm (s : Sm) : Prop where
  n : s.1.natAbs < 10 ^ 60
  no : Norm s.2
  p : ∀ p ∈ s.2, p.2.natAbs < 10 ^ 60 ∧ nameOk (cs p.1) = true
inductive Nt : Stm → Prop
  | above {s : Sm} : NSm s → Nt (.above s)
  | nought {s : Sm} : NSm s → Nt (.nought s)
  | goes {m : Int} {s : Sm} : 1 ≤ m → m.natAbs < 10 ^ 60 → NSm s → Nt (.goes m s)
  | neg {a : Stm} : Nt a → Nt (.neg a)
  | con {o : Bool} {l : List Stm} : (∀ a ∈ l, Nt a) → l.length < 10 ^ 60 → Nt (.con o l)
  | bnd {o : Bool} {x : Str} {a : Stm} : nameOk (cs x) = true → Nt a → Nt (.bnd o x a)
theorem pPs_w : ∀ (ps : List Pr) (last : Option Str) (r : List Str), Norm ps → (∀ p ∈ ps, p.2.natAbs < 10 ^ 60 ∧ nameOk (cs p.1) = true) → (∀ y, last = some y → ∀ p ∈ ps, slt y p.1) → pPs last (wPs ps ++ (";" : Str) :: r) = some (ps, r) := by
  intro ps
  induction ps with
  | nil => intro last r no hp hl; rfl
  | cons p ps ih =>
    intro last r no hp hl
    obtain ⟨h1, h2⟩ := hp p (List.mem_cons_self ..)
    have nz := no.nz p (List.mem_cons_self ..)
    have no' : Norm ps := ⟨(List.pairwise_cons.mp (show List.Pairwise slt (p.1 :: ps.map (·.1)) from no.rise)).2, fun q hq => no.nz q (List.mem_cons_of_mem _ hq)⟩
    have lt : ∀ q ∈ ps, slt p.1 q.1 := fun q hq => (List.pairwise_cons.mp (show List.Pairwise slt (p.1 :: ps.map (·.1)) from no.rise)).1 q.1 (List.mem_map_of_mem hq)
    show pPs last (nS p.2 :: p.1 :: (wPs ps ++ (";" : Str) :: r)) = _
    rw [pPs, if_neg (numOk_free (numOk_nS h1)).2, num_nS h1]
    show (if _ then _ else _) = _
    rw [if_pos ⟨h2, nz, fun y hy => hl y hy p (List.mem_cons_self ..)⟩, ih (some p.1) r no' (fun q hq => hp q (List.mem_cons_of_mem _ hq)) (fun y hy q hq => by cases hy; exact lt q hq)]
    rfl
theorem pSum_w {s : Sm} (h : NSm s) (r : List Str) : pSum (wSum s ++ r) = some (s, r) := by
  show pSum (nS s.1 :: ((wPs s.2 ++ [(";" : Str)]) ++ r)) = _
  rw [pSum, num_nS h.n]
  show ((pPs none ((wPs s.2 ++ [(";" : Str)]) ++ r)).map fun (q : List Pr × List Str) => ((s.1, q.1), q.2)) = _
  rw [List.append_assoc]
  rw [show [(";" : Str)] ++ r = (";" : Str) :: r from rfl, pPs_w s.2 none r h.no h.p (fun y hy => by cases hy)]
  rfl
/-- what is written is read again -/
theorem pS_w : ∀ (n : Nat) (a : Stm), Nt a → dep a ≤ n → ∀ r, pS n (wds a ++ r) = some (a, r) := by
  intro n
  induction n with
  | zero => intro a _ h; have := dep_pos a; omega
  | succ n ih =>
    intro a h hd r
    cases h with
    | @above s hs =>
      show pS (n + 1) ("above" :: (wSum s ++ r)) = _
      rw [pS_cons, if_pos rfl, pSum_w hs]
      rfl
    | @nought s hs =>
      show pS (n + 1) ("nought" :: (wSum s ++ r)) = _
      rw [pS_cons, if_neg (by decide +kernel), if_pos rfl, pSum_w hs]
      rfl
    | @goes m s h1 hm hs =>
      show pS (n + 1) ("goes" :: nS m :: (wSum s ++ r)) = _
      rw [pS_cons, if_neg (by decide +kernel), if_neg (by decide +kernel), if_pos rfl]
      show (match num (nS m) with | none => none | some m => if 1 ≤ m then (pSum (wSum s ++ r)).map fun (q : Sm × List Str) => (Stm.goes m q.1, q.2) else none) = _
      rw [num_nS hm]
      show (if 1 ≤ m then (pSum (wSum s ++ r)).map fun (q : Sm × List Str) => (Stm.goes m q.1, q.2) else none) = _
      rw [if_pos h1, pSum_w hs]
      rfl
    | @neg a h =>
      show pS (n + 1) ("not" :: (wds a ++ r)) = _
      rw [pS_cons, if_neg (by decide +kernel), if_neg (by decide +kernel), if_neg (by decide +kernel), if_pos rfl, ih a h (Nat.le_of_succ_le_succ hd) r]
      rfl
    | @bnd o x a hx h =>
      show pS (n + 1) (bndW o :: x :: (wds a ++ r)) = _
      rw [pS_cons, if_neg (by cases o <;> decide +kernel), if_neg (by cases o <;> decide +kernel), if_neg (by cases o <;> decide +kernel), if_neg (by cases o <;> decide +kernel), if_pos (by cases o; exact .inl rfl; exact .inr rfl)]
      show (if nameOk (cs x) = true then (pS n (wds a ++ r)).map fun (q : Stm × List Str) => (Stm.bnd (decide (bndW o = "all")) x q.1, q.2) else none) = _
      rw [if_pos hx, ih a h (Nat.le_of_succ_le_succ hd) r]
      have e : decide (bndW o = "all") = o := by cases o <;> decide +kernel
      rw [e]
      rfl
    | @con o l h hl =>
      have key : ∀ m : List Stm, (∀ a ∈ m, Nt a ∧ dep a ≤ n) → pP (pS n) (wdss m ++ r).length m.length (wdss m ++ r) = some (m, r) := by
        intro m
        induction m with
        | nil => intro _; cases r <;> rfl
        | cons a m im =>
          intro hm
          obtain ⟨h1, h2⟩ := hm a (List.mem_cons_self ..)
          have e : wdss (a :: m) ++ r = wds a ++ (wdss m ++ r) := by rw [← List.append_assoc]; rfl
          rw [List.length_cons, pP_step (pS_suf n) (pS_nil n), e, ih a h1 h2]
          show ((pP (pS n) (wdss m ++ r).length m.length (wdss m ++ r)).map fun (z : List Stm × List Str) => (a :: z.1, z.2)) = _
          rw [im fun b hb => hm b (List.mem_cons_of_mem _ hb)]
          rfl
      have hd' : deps l ≤ n := Nat.le_of_succ_le_succ hd
      show pS (n + 1) (conW o :: nS l.length :: (wdss l ++ r)) = _
      rw [pS_cons, if_neg (by cases o <;> decide +kernel), if_neg (by cases o <;> decide +kernel), if_neg (by cases o <;> decide +kernel), if_neg (by cases o <;> decide +kernel), if_neg (by cases o <;> decide +kernel), if_pos (by cases o; exact .inr rfl; exact .inl rfl)]
      show (match num (nS l.length) with | none => none | some k => if 0 ≤ k then (pP (pS n) (wdss l ++ r).length k.toNat (wdss l ++ r)).map fun (q : List Stm × List Str) => (Stm.con (decide (conW o = "and")) q.1, q.2) else none) = _
      rw [num_nS (by omega)]
      show (if (0 : Int) ≤ l.length then (pP (pS n) (wdss l ++ r).length (l.length : Int).toNat (wdss l ++ r)).map fun (q : List Stm × List Str) => (Stm.con (decide (conW o = "and")) q.1, q.2) else none) = _
      rw [if_pos (by omega), Int.toNat_natCast, key l fun a ha => ⟨h a ha, Nat.le_trans (dep_in ha) hd'⟩]
      have e : decide (conW o = "and") = o := by cases o <;> decide +kernel
      rw [e]
      rfl
end XY

namespace XY
open PySem PySem.Spec PyProof.Rows L2 XS
/-! ### promises of the reading -/
abbrev WL : Nat := 2000000
/-- a list of words in the heap -/
structure WsOk (K : PySem.W.Frag) (H : Hp) (p : Addr) (ws : List Str) : Prop where
  l : SqL K H p (ws.map V.str)
  n : ws.length ≤ WL
  w : ∀ x ∈ ws, x.length ≤ WL
theorem WsOk.same {K : PySem.W.Frag} {H H' : Hp} {p : Addr} {ws : List Str} (h : WsOk K H p ws) (e : Same H H') : WsOk K H' p ws := ⟨e.seq h.l, h.n, h.w⟩
def sp_word (K : PySem.W.Frag) (NN : Addr) : Sp := fun vs H Q E => ∃ (p : Addr) (ws : List Str) (i : Nat), vs = [.ref p, .int i] ∧ WsOk K H p ws ∧ i ≤ WL + 10 ∧ (∀ x, ws[i]? = some x → Q (.str x) H) ∧ (ws.length ≤ i → E (.ref NN) none H)
def sp_number (NN : Addr) : Sp := fun vs H Q E => ∃ x : Str, vs = [.str x] ∧ x.length ≤ WL ∧ (∀ n, num x = some n → numOk (cs x) = true → Q (.int n) H) ∧ (num x = none → numOk (cs x) = false → E (.ref NN) none H)
def sp_name (NN : Addr) : Sp := fun vs H Q E => ∃ x : Str, vs = [.str x] ∧ x.length ≤ WL ∧ (nameOk (cs x) = true → Q (.str x) H) ∧ (nameOk (cs x) = false → E (.ref NN) none H)
/-- how a reading of a sum ends -/
def REnd {α : Type} (K : PySem.W.Frag) (NN : Addr) (ws : List Str) (got : Option (α × List Str)) (d : α → PyData) (H : Hp) (Q : VK) (E : XK) : Prop :=
  (∀ a r, got = some (a, r) → ∀ (t u : Addr) (j : Nat) (H' : Hp), Same H H' → j ≤ ws.length → r = ws.drop j → Dp K H' (.ref t) (d a) → SqT K H' u [.ref t, .int j] → Q (.ref u) H') ∧ (got = none → ∀ H', Same H H' → E (.ref NN) none H')
end XY
namespace XY
open PySem PySem.Spec PyProof.Rows L2 XS
/-- constants of the notes -/
structure Cw (mg : Str → Option Value) : Prop where
  MOST_WITHIN : ∃ t, mg "MOST_WITHIN" = some (.int 40 t)
  MOST_FIGURES : ∃ t, mg "MOST_FIGURES" = some (.int 60 t)
  MOST_LETTERS : ∃ t, mg "MOST_LETTERS" = some (.int 8 t)
  PIECE : ∃ t, mg "PIECE" = some (.int 60 t)
  PIECE_END : ∃ t, mg "PIECE_END" = some (.int (10 ^ 60) t)
  FIGURES : ∃ t, mg "FIGURES" = some (.str "0123456789" t)
  LETTERS : ∃ t, mg "LETTERS" = some (.str "abcdefghijklmnopqrstuvwxyz" t)
end XY
namespace XY
open PySem PySem.Spec PyProof.Rows L2 XS
/-! ### texts -/
theorem cs_len (x : Str) : (cs x).length = x.length := Array.length_toList
theorem cs_inj {x y : Str} (h : cs x = cs y) : x = y := TL.ext_tl h
theorem sw {x y : Str} {c : Nat} (hy : cs y = [c]) : Txt.startswith x y = decide ((cs x).head? = some c) := by
  have hne : TL.tl y ≠ [] := by rw [show TL.tl y = [c] from hy]; simp
  have k := TL.at_iff (x := x) hne 0
  have e : Txt.startswith x y = true ↔ StrLaws.At x y x.length 0 := by
    unfold Txt.startswith StrLaws.At
    rw [Bool.and_eq_true, decide_eq_true_eq]
  rw [k, List.drop_zero, show TL.tl y = [c] from hy] at e
  have e2 : TL.pre [c] (TL.tl x) = true ↔ (cs x).head? = some c := by
    show TL.pre [c] (cs x) = true ↔ _
    unfold TL.pre
    cases cs x with
    | nil => simp
    | cons a r => simp
  rw [e2] at e
  cases h : Txt.startswith x y with
  | true => exact (decide_eq_true (e.mp h)).symm
  | false =>
    refine (decide_eq_false fun z => ?_).symm
    rw [e.mpr z] at h
    cases h
theorem cs_from (x : Str) (k : Nat) : cs (cutS x (some (k : Int)) none) = (cs x).drop k := by
  show (((x.cps.toList.drop (HT.sIx x.length 0 (some (k : Int)))).take (HT.sIx x.length x.length none - HT.sIx x.length 0 (some (k : Int)))).toArray).toList = _
  rw [HT.sIx_nat, HT.sIx_none]
  have hl : x.cps.toList.length = x.length := Array.length_toList
  show (x.cps.toList.drop (min k x.length)).take (x.length - min k x.length) = x.cps.toList.drop k
  by_cases h : k ≤ x.length
  · rw [Nat.min_eq_left h, List.take_of_length_le (by rw [List.length_drop]; omega)]
  · rw [Nat.min_eq_right (by omega), List.drop_of_length_le (by omega), List.drop_of_length_le (by omega)]
    simp
theorem cs_upto (x : Str) (k : Nat) : cs (cutS x none (some (k : Int))) = (cs x).take k := by
  show (((x.cps.toList.drop (HT.sIx x.length 0 none)).take (HT.sIx x.length x.length (some (k : Int)) - HT.sIx x.length 0 none)).toArray).toList = _
  rw [HT.sIx_nat, HT.sIx_none, List.drop_zero, Nat.sub_zero]
  have hl : x.cps.toList.length = x.length := Array.length_toList
  show x.cps.toList.take (min k x.length) = x.cps.toList.take k
  by_cases h : k ≤ x.length
  · rw [Nat.min_eq_left h]
  · rw [Nat.min_eq_right (by omega), List.take_of_length_le (by omega), List.take_of_length_le (by omega)]
/-! ### a walk over a text -/
theorem for_text {x : Str} {g : TG} {tb : TS} {D : Ends} {σ : L2.St} {H : Hp} (Pv : Nat → L2.St → Hp → Prop) (h0 : Pv 0 σ H)
    (hs : ∀ i c σ H, (cs x)[i]? = some c → Pv i σ H → g (.str ⟨#[c]⟩) σ H fun σ2 H2 => tb { D with nx := Pv (i + 1), ct := Pv (i + 1), bk := D.nx } σ2 H2) (hd : ∀ σ H, Pv (cs x).length σ H → D.nx σ H) :
    ∃ W : Nat → Nat → L2.St → Hp → Prop, (∃ m, W 0 m σ H) ∧ ∀ i m σ H, W i m σ H →
      ((Its x).stop i H ∧ D.nx σ H) ∨ ((Its x).go i H ∧ ∃ N : L2.St → Hp → Prop, (∀ σ' H', N σ' H' → ∃ m', m' < m ∧ W (i + 1) m' σ' H') ∧ ∀ v H', (Its x).yld i H v H' → g v σ H' fun σ2 H2 => tb { D with nx := N, ct := N, bk := D.nx } σ2 H2) := by
  have hl : x.cps.size = (cs x).length := Array.length_toList.symm
  refine ⟨fun i m σ H => m = (cs x).length - i ∧ i ≤ (cs x).length ∧ Pv i σ H, ⟨_, rfl, Nat.zero_le _, h0⟩, ?_⟩
  rintro i m σ H ⟨rfl, hi, p⟩
  by_cases hlt : i < (cs x).length
  · refine .inr ⟨show i < x.cps.size by omega, Pv (i + 1), fun σ' H' p' => ⟨(cs x).length - (i + 1), by omega, rfl, hlt, p'⟩, fun v H' y => ?_⟩
    obtain ⟨e, c, hc, ev⟩ := y
    subst e ev
    exact hs i c σ _ (by show x.cps.toList[i]? = _; rw [Array.getElem?_toList]; exact hc) p
  · have e : i = (cs x).length := by omega
    subst e
    exact .inl ⟨show x.cps.size ≤ _ by omega, hd σ H p⟩
section
variable {σ : L2.St} {H : Hp} {te : TE} {t : TS} {D : Ends} {g : TG}
theorem x_iS {R : It → Hp → Prop} (h : te σ H fun v H1 => ∃ x, v = .str x ∧ R (Its x) H1) : iStr te σ H R := h
theorem x_forS {x : Str} (Pv : Nat → L2.St → Hp → Prop) (h0 : Pv 0 σ H)
    (hs : ∀ i c σ' H', (cs x)[i]? = some c → Pv i σ' H' → g (.str ⟨#[c]⟩) σ' H' fun σ2 H2 => t { D with nx := Pv (i + 1), ct := Pv (i + 1), bk := D.nx } σ2 H2) (hd : ∀ σ' H', Pv (cs x).length σ' H' → D.nx σ' H') :
    ∃ y, V.str x = .str y ∧ ForJ (Its y) g t D σ H := ⟨x, rfl, for_text Pv h0 hs hd⟩
end
end XY
namespace XY
open PySem PySem.Spec PyProof.Rows L2 XS
section
variable {σ : L2.St} {H : Hp} {Q : VK}
theorem x_m1 {r : V → List V → Hp → VK → Prop} {to te : TE} (h : to σ H fun x H1 => (∃ a, x = .str a) ∧ te σ H1 fun y H2 => r x [y] H2 Q) : tM1 r to te σ H Q := h
theorem x_slS {z : Str} {lo hi : Option Int} (hz : z.length ≤ WL) (k : Q (.str (cutS z lo hi)) H) : rSlS (.str z) lo hi H Q := ⟨z, rfl, Nat.le_trans hz (by decide), k⟩
theorem x_lenS {z : Str} (hz : z.length ≤ WL) (k : Q (.int z.length) H) : ∃ y : Str, [V.str z] = [.str y] ∧ y.length ≤ sizeLine ∧ Q (.int y.length) H := ⟨z, rfl, Nat.le_trans hz (by decide), k⟩
end
end XY
namespace XY
open PySem PySem.Spec PyProof.Rows L2 XS
section
variable {σ : L2.St} {H : Hp} {Q : VK}
/-- i <= len(x) <= j, whole numbers: the middle one is asked once -/
theorem x_chI {i j m : Int} {ta tb tc : TE} (ha : ∀ K, K (.int i) H → ta σ H K) (hb : ∀ K, K (.int m) H → tb σ H K) (hc : ∀ K, K (.int j) H → tc σ H K) (k : Q (.bl (decide (i ≤ m) && decide (m ≤ j))) H) :
    tChain (rI0 fun i j => .bl (decide (i ≤ j))) (rI0 fun i j => .bl (decide (i ≤ j))) ta tb tc σ H Q := by
  refine ha _ (hb _ ⟨_, _, rfl, rfl, ?_⟩)
  refine ⟨decide (i ≤ m), rfl, ?_⟩
  by_cases h : i ≤ m
  · rw [decide_eq_true h] at k ⊢
    rw [if_pos rfl]
    exact hc _ ⟨_, _, rfl, rfl, k⟩
  · rw [decide_eq_false h] at k ⊢
    rw [if_neg (by decide)]
    exact k
end
end XY
namespace XY
open PySem PySem.Spec PyProof.Rows L2 XS
theorem dig_mem (c : Nat) : decide (c ∈ (Str.ofString "0123456789").cps.toList) = dig c := by
  have e : (Str.ofString "0123456789").cps.toList = [48, 49, 50, 51, 52, 53, 54, 55, 56, 57] := by decide +kernel
  rw [e]
  unfold dig
  rw [← Bool.decide_and, decide_eq_decide]
  simp only [List.mem_cons, List.not_mem_nil, or_false]
  omega
theorem low_mem (c : Nat) : decide (c ∈ (Str.ofString "abcdefghijklmnopqrstuvwxyz").cps.toList) = low c := by
  have e : (Str.ofString "abcdefghijklmnopqrstuvwxyz").cps.toList = [97, 98, 99, 100, 101, 102, 103, 104, 105, 106, 107, 108, 109, 110, 111, 112, 113, 114, 115, 116, 117, 118, 119, 120, 121, 122] := by decide +kernel
  rw [e]
  unfold low
  rw [← Bool.decide_and, decide_eq_decide]
  simp only [List.mem_cons, List.not_mem_nil, or_false]
  omega
theorem all_more {l : List Nat} {p : Nat → Bool} {i c : Nat} (h : (l.take i).all p = true) (hi : l[i]? = some c) (hc : p c = true) : (l.take (i + 1)).all p = true := by
  rw [XS.take_more hi, List.all_append, h]
  simp [hc]
theorem all_not {l : List Nat} {p : Nat → Bool} {i c : Nat} (hi : l[i]? = some c) (hc : p c = false) : l.all p = false := by
  refine Bool.eq_false_iff.mpr fun t => ?_
  have := List.all_eq_true.mp t c (List.mem_of_getElem? hi)
  rw [hc] at this
  cases this
theorem str_eq0 {x : Str} : x = Str.ofString "0" ↔ cs x = [48] := ⟨fun e => by rw [e]; decide +kernel, fun e => cs_inj (by rw [e]; decide +kernel)⟩
end XY
namespace XY
open PySem PySem.Spec PyProof.Rows L2 XS
theorem drop_at {ws : List Str} {i : Nat} {x : Str} (h : ws[i]? = some x) : ws.drop i = x :: ws.drop (i + 1) := by
  obtain ⟨hi, e⟩ := List.getElem?_eq_some_iff.mp h
  rw [List.drop_eq_getElem_cons hi, e]
theorem drop_out {ws : List Str} {i : Nat} (h : ws.length ≤ i) : ws.drop i = [] := List.drop_of_length_le h
def sp_rsum (K : PySem.W.Frag) (NN : Addr) : Sp := fun vs H Q E => ∃ (p : Addr) (ws : List Str) (i : Nat), vs = [.ref p, .int i] ∧ WsOk K H p ws ∧ i ≤ ws.length ∧ REnd K NN ws (pSum (ws.drop i)) sumD H Q E
/-- the name of the last share -/
def lastP (ps : List Pr) : Option Str := ps.getLast?.map (·.1)
theorem pPs_more {last : Option Str} {w x : Str} {r : List Str} {k : Int} (hw : w ≠ ";") (hk : num w = some k) (hx : nameOk (cs x) = true) (h0 : k ≠ 0) (hl : ∀ y, last = some y → slt y x) : pPs last (w :: x :: r) = (pPs (some x) r).map fun q => ((x, k) :: q.1, q.2) := by
  rw [pPs, if_neg hw, hk]
  show (if _ then _ else _) = _
  rw [if_pos ⟨hx, h0, hl⟩]
theorem pPs_bad {last : Option Str} {w x : Str} {r : List Str} {k : Int} (hw : w ≠ ";") (hk : num w = some k) (h : ¬ (nameOk (cs x) = true ∧ k ≠ 0 ∧ ∀ y, last = some y → slt y x)) : pPs last (w :: x :: r) = none := by
  rw [pPs, if_neg hw, hk]
  show (if _ then _ else _) = _
  rw [if_neg h]
theorem pPs_num {last : Option Str} {w : Str} {r : List Str} (hw : w ≠ ";") (hk : num w = none) : pPs last (w :: r) = none := by
  rw [pPs, if_neg hw, hk]
theorem pPs_one {last : Option Str} {w : Str} (hw : w ≠ ";") : pPs last [w] = none := by
  rw [pPs, if_neg hw]
  cases num w <;> rfl
theorem pSum_num {w : Str} {r : List Str} (hk : num w = none) : pSum (w :: r) = none := by rw [pSum, hk]
theorem pSum_go {w : Str} {r : List Str} {k : Int} (hk : num w = some k) : pSum (w :: r) = (pPs none r).map fun q => ((k, q.1), q.2) := by rw [pSum, hk]
/-- the shares so far, the rest to come -/
def Sofar (k : Int) (got : Option (Sm × List Str)) (ps : List Pr) (rest : List Str) : Prop := got = (pPs (lastP ps) rest).map fun q => ((k, ps ++ q.1), q.2)
theorem Sofar.more {k n : Int} {got : Option (Sm × List Str)} {ps : List Pr} {w x : Str} {r : List Str} (h : Sofar k got ps (w :: x :: r)) (hw : w ≠ ";") (hk : num w = some n) (hx : nameOk (cs x) = true) (h0 : n ≠ 0) (hl : ∀ y, lastP ps = some y → slt y x) : Sofar k got (ps ++ [(x, n)]) r := by
  unfold Sofar at h ⊢
  rw [h, pPs_more hw hk hx h0 hl]
  have e : lastP (ps ++ [(x, n)]) = some x := by unfold lastP; rw [List.getLast?_append]; rfl
  rw [e, Option.map_map]
  congr 1
  funext q
  simp
end XY
namespace XY
open PySem PySem.Spec PyProof.Rows L2 XS
theorem dpLast {K : PySem.W.Frag} {H : Hp} : ∀ {us : List V} {l : List PyData} {d : PyData}, DpAll K H us (l ++ [d]) → ∃ hd u, us = hd ++ [u] ∧ Dp K H u d
  | us, [], d, h => by
    cases h with
    | cons a b =>
      cases b
      exact ⟨[], _, rfl, a⟩
  | us, e :: l, d, h => by
    cases h with
    | cons a b =>
      obtain ⟨hd, u, rfl, q⟩ := dpLast b
      exact ⟨_ :: hd, u, rfl, q⟩
end XY
namespace XY
open PySem PySem.Spec PyProof.Rows L2 XS
/-- a con behind its word -/
def pCon (n : Nat) (o : Bool) (r : List Str) : Option (Stm × List Str) := match r with
  | [] => none
  | c :: r' => match num c with
    | none => none
    | some k => if 0 ≤ k then (pP (pS n) r'.length k.toNat r').map fun q => (.con o q.1, q.2) else none
theorem pS_con (n : Nat) (o : Bool) (r : List Str) : pS (n + 1) (conW o :: r) = pCon n o r := by
  rw [pS_cons, if_neg (by cases o <;> decide +kernel), if_neg (by cases o <;> decide +kernel), if_neg (by cases o <;> decide +kernel), if_neg (by cases o <;> decide +kernel), if_neg (by cases o <;> decide +kernel), if_pos (by cases o; exact .inr rfl; exact .inl rfl)]
  have e : decide (conW o = "and") = o := by cases o <;> decide +kernel
  rw [e]
  rfl
theorem pS_above (n : Nat) (r : List Str) : pS (n + 1) ("above" :: r) = (pSum r).map fun q => (.above q.1, q.2) := by rw [pS_cons, if_pos rfl]
theorem pS_nought (n : Nat) (r : List Str) : pS (n + 1) ("nought" :: r) = (pSum r).map fun q => (.nought q.1, q.2) := by rw [pS_cons, if_neg (by decide +kernel), if_pos rfl]
/-- a goes, a bound one, behind their words -/
def pGo (r : List Str) : Option (Stm × List Str) := match r with
  | [] => none
  | d :: r' => match num d with
    | none => none
    | some m => if 1 ≤ m then (pSum r').map fun q => (.goes m q.1, q.2) else none
def pBd (n : Nat) (o : Bool) (r : List Str) : Option (Stm × List Str) := match r with
  | [] => none
  | x :: r' => if nameOk (cs x) = true then (pS n r').map fun q => (.bnd o x q.1, q.2) else none
theorem pGo_num {d : Str} {r : List Str} (h : num d = none) : pGo (d :: r) = none := by rw [pGo, h]
theorem pGo_some {d : Str} {r : List Str} {m : Int} (h : num d = some m) : pGo (d :: r) = if 1 ≤ m then (pSum r).map fun q => (.goes m q.1, q.2) else none := by rw [pGo, h]
theorem pBd_no {n : Nat} {o : Bool} {x : Str} {r : List Str} (h : nameOk (cs x) = false) : pBd n o (x :: r) = none := by rw [pBd, h]; rfl
theorem pBd_yes {n : Nat} {o : Bool} {x : Str} {r : List Str} (h : nameOk (cs x) = true) : pBd n o (x :: r) = (pS n r).map fun q => (.bnd o x q.1, q.2) := by rw [pBd, if_pos h]
theorem pCon_num {n : Nat} {o : Bool} {d : Str} {r : List Str} (h : num d = none) : pCon n o (d :: r) = none := by rw [pCon, h]
theorem pCon_some {n : Nat} {o : Bool} {d : Str} {r : List Str} {k : Int} (h : num d = some k) : pCon n o (d :: r) = if 0 ≤ k then (pP (pS n) r.length k.toNat r).map fun q => (.con o q.1, q.2) else none := by rw [pCon, h]
theorem pS_goes (n : Nat) (r : List Str) : pS (n + 1) ("goes" :: r) = pGo r := by rw [pS_cons, if_neg (by decide +kernel), if_neg (by decide +kernel), if_pos rfl]; cases r <;> rfl
theorem pS_not (n : Nat) (r : List Str) : pS (n + 1) ("not" :: r) = (pS n r).map fun q => (.neg q.1, q.2) := by rw [pS_cons, if_neg (by decide +kernel), if_neg (by decide +kernel), if_neg (by decide +kernel), if_pos rfl]
theorem pS_bnd (n : Nat) (o : Bool) (r : List Str) : pS (n + 1) (bndW o :: r) = pBd n o r := by
  rw [pS_cons, if_neg (by cases o <;> decide +kernel), if_neg (by cases o <;> decide +kernel), if_neg (by cases o <;> decide +kernel), if_neg (by cases o <;> decide +kernel), if_pos (by cases o; exact .inl rfl; exact .inr rfl)]
  have e : decide (bndW o = "all") = o := by cases o <;> decide +kernel
  rw [e]
  cases r <;> rfl
theorem pS_else (n : Nat) {w : Str} {r : List Str} (h1 : w ≠ "above") (h2 : w ≠ "nought") (h3 : w ≠ "goes") (h4 : w ≠ "not") (h5 : w ≠ "some") (h6 : w ≠ "all") (h7 : w ≠ "and") (h8 : w ≠ "or") : pS (n + 1) (w :: r) = none := by
  rw [pS_cons, if_neg h1, if_neg h2, if_neg h3, if_neg h4, if_neg (by rintro (h | h); exact h5 h; exact h6 h), if_neg (by rintro (h | h); exact h7 h; exact h8 h)]
/-- the kinds of words -/
inductive Kind : Str → Prop
  | above : Kind "above"
  | nought : Kind "nought"
  | goes : Kind "goes"
  | not : Kind "not"
  | bnd (o : Bool) : Kind (bndW o)
  | con (o : Bool) : Kind (conW o)
  | else {w : Str} : w ≠ "above" → w ≠ "nought" → w ≠ "goes" → w ≠ "not" → w ≠ "some" → w ≠ "all" → w ≠ "and" → w ≠ "or" → Kind w
theorem kind (w : Str) : Kind w := by
  by_cases h1 : w = "above"
  · rw [h1]; exact .above
  by_cases h2 : w = "nought"
  · rw [h2]; exact .nought
  by_cases h3 : w = "goes"
  · rw [h3]; exact .goes
  by_cases h4 : w = "not"
  · rw [h4]; exact .not
  by_cases h5 : w = "some"
  · rw [h5]; exact .bnd false
  by_cases h6 : w = "all"
  · rw [h6]; exact .bnd true
  by_cases h7 : w = "and"
  · rw [h7]; exact .con true
  by_cases h8 : w = "or"
  · rw [h8]; exact .con false
  exact .else h1 h2 h3 h4 h5 h6 h7 h8
def sp_rst (n : Nat) (K : PySem.W.Frag) (NN : Addr) : Sp := fun vs H Q E => ∃ (p : Addr) (ws : List Str) (i : Nat), vs = [.ref p, .int i, .int (41 - n)] ∧ WsOk K H p ws ∧ i ≤ ws.length ∧ n ≤ 41 ∧ REnd K NN ws (pS n (ws.drop i)) toD H Q E
def sp_rparts (n : Nat) (K : PySem.W.Frag) (NN : Addr) : Sp := fun vs H Q E => ∃ (p : Addr) (ws : List Str) (i : Nat) (o : Bool), vs = [.str (conW o), .ref p, .int i, .int (40 - n)] ∧ WsOk K H p ws ∧ i ≤ ws.length ∧ n ≤ 40 ∧ REnd K NN ws (pCon n o (ws.drop i)) toD H Q E
/-- an ending, seen from further on -/
theorem REnd.map {α β : Type} {K : PySem.W.Frag} {NN : Addr} {ws : List Str} {got : Option (α × List Str)} {d : α → PyData} {f : α → β} {d' : β → PyData} {H H1 : Hp} {Q Q1 : VK} {E : XK} (h : REnd K NN ws (got.map fun q => (f q.1, q.2)) d' H Q E) (e : Same H H1)
    (k : ∀ a r, got = some (a, r) → ∀ (t u : Addr) (j : Nat) (H' : Hp), Same H1 H' → j ≤ ws.length → r = ws.drop j → Dp K H' (.ref t) (d a) → SqT K H' u [.ref t, .int j] → Q1 (.ref u) H') : REnd K NN ws got d H1 Q1 E :=
  ⟨k, fun hn H' e' => h.2 (by rw [hn]; rfl) H' (e.trans e')⟩
end XY
namespace XY
open PySem PySem.Spec PyProof.Rows L2 XS
/-- the parts so far -/
def SofarP (n : Nat) (got : Option (List Stm × List Str)) (c : Nat) (ps : List Stm) (rest : List Str) : Prop := got = (pP (pS n) rest.length c rest).map fun q => (ps ++ q.1, q.2)
theorem SofarP.start {n c : Nat} {r : List Str} : SofarP n (pP (pS n) r.length c r) c [] r := by
  unfold SofarP
  cases pP (pS n) r.length c r <;> rfl
theorem SofarP.none {n c : Nat} {got : Option (List Stm × List Str)} {ps : List Stm} {r : List Str} (h : SofarP n got (c + 1) ps r) (e : pS n r = none) : got = none := by
  unfold SofarP at h
  rw [h, pP_step (pS_suf n) (pS_nil n), e]
  rfl
theorem SofarP.more {n c : Nat} {got : Option (List Stm × List Str)} {ps : List Stm} {r r' : List Str} {a : Stm} (h : SofarP n got (c + 1) ps r) (e : pS n r = some (a, r')) : SofarP n got c (ps ++ [a]) r' := by
  unfold SofarP at h ⊢
  rw [h, pP_step (pS_suf n) (pS_nil n), e]
  show ((pP (pS n) r'.length c r').map _).map _ = _
  rw [Option.map_map]
  congr 1
  funext q
  simp
theorem SofarP.end {n : Nat} {got : Option (List Stm × List Str)} {ps : List Stm} {r : List Str} (h : SofarP n got 0 ps r) : got = some (ps, r) := by
  unfold SofarP at h
  rw [h]
  cases r <;> show some (ps ++ [], _) = _ <;> rw [List.append_nil]
end XY
namespace XY
open PySem PySem.Spec PyProof.Rows L2 XS
theorem le_sum {l : List Nat} {n : Nat} (h : n ∈ l) : n ≤ l.sum := by
  induction l with
  | nil => cases h
  | cons a l ih =>
    rw [List.sum_cons]
    rcases List.mem_cons.mp h with rfl | h
    · omega
    · have := ih h; omega
/-- the words of a text -/
def wof (x : Str) : List Str := Txt.split x " "
theorem wof_ok {K : PySem.W.Frag} {H : Hp} {p : Addr} {x : Str} (h : SqL K H p ((wof x).map V.str)) (hx : x.length + 2 ≤ WL) : WsOk K H p (wof x) := by
  have w := split_weight x " " (by decide +kernel)
  refine ⟨h, by show (Txt.split x " ").length ≤ _; omega, fun y hy => ?_⟩
  have := le_sum (List.mem_map_of_mem (f := fun z : Str => z.length) hy)
  have e : ((wof x).map fun z : Str => z.length).sum = ((Txt.split x " ").map (·.length)).sum := rfl
  omega
def sp_read (K : PySem.W.Frag) (NN : Addr) : Sp := fun vs H Q E => ∃ x : Str, vs = [.str x] ∧ x.length + 2 ≤ WL ∧ (∀ a, pS 40 (wof x) = some (a, []) → ∀ t H', Same H H' → Dp K H' (.ref t) (toD a) → Q (.ref t) H') ∧ ((∀ a, pS 40 (wof x) ≠ some (a, [])) → ∀ H', Same H H' → E (.ref NN) none H')
end XY

namespace XY
open PySem PySem.Spec PySem.Builtin PyProof.Rows L2 XS
section
variable {prog : Program} {w : World} {A : Around} {E : Value → Shared → Prop} {s : Shared} {x : Str} {t : Tok} {Q : Value → Shared → Prop}
/-- sep.join of a reversed iterator over a list of texts -/
theorem call_join_rev {it l : Addr} {items : Array Value} {ys : List Str} (hh : A.handled = none) (hit : s.heap.IsRevIter it l ((items.size : Int) - 1)) (hl : s.heap.IsList l items) (hne : l ≠ it) (hn : items.size ≤ sizeLine)
    (hi : Vals (ys.map V.str) items.toList) (hok : JoinOk x ys.reverse = true)
    (hQ : ∀ (h' : Heap) (tk : Nat) (t' : Tok), (∀ b o, b ≠ it → s.heap.get? b = some o → h'.get? b = some o) → Q (.str (Txt.join x ys.reverse) t') { s with heap := h', toks := tk }) :
    wpAny (model prog w) A (call (.builtin "str.join") [.str x t, .ref it]) Q E s := by
  refine wpAny_call (codeAny_call_builtin F.slot_str_join.plain F.entry_str_join (F.slot_str_join.check _ _ _ _ _ _ _ _ (typeIs_str _ _ _) (F.args_str_join_2 _ _) ?_))
  rw [join_tree_other]
  refine wpAny_bind (wpAny_typeOf hit.typeIs ?_)
  show wpAny _ A.in1 ((pyIter (.ref it)).tryCatch _ >>= fun it => collect it >>= fun items => joinTail x items) _ _ s
  refine wpAny_bind (wpAny_tryCatch (wpAny_pyIter_revIter hit ?_))
  refine wpAny_bind (RT.collect_rev (A := A.in1) hh hit hl hne hn fun h' tk acc hk hacc => ?_)
  have hv : Vals (ys.map V.str).reverse acc.toList := RT.vals_rev hi (by simpa using hacc)
  rw [← List.map_reverse] at hv
  obtain ⟨m, hm, ht⟩ := strsAre_values (strs_of_vals hv)
  rw [hm]
  have hok' : Builtin.Str.tooLong ((m.map (·.1)).toArray.foldl (· + ·.length + x.length) 0) = false := by
    rw [ht]
    unfold JoinOk at hok
    rw [Bool.not_eq_true'] at hok
    exact hok
  have g : Gives (joinTail x (strValues m)) (joinMade x m) := by
    have g0 := gives_joinTail x m hok'
    cases m with
    | nil => exact g0
    | cons p r => cases r with
      | nil => exact g0
      | cons q r' => exact g0
  exact g prog w A (wants Q E) _ (post_join m ⟨joinFit_length hok', fun t' k => by rw [ht]; exact hQ h' k t' hk⟩)
end
def tJoinRev (K : PySem.W.Frag) (to te : TE) : TE := fun σ H Q => to σ H fun x H1 => ∃ a, x = .str a ∧ te σ H1 fun y H2 => ∃ p, ∃ ys : List Str, y = .ref p ∧ SqL K H2 p (ys.map V.str) ∧ (ys.map (·.length)).sum + ys.length * a.length ≤ 16777216 ∧ Q (.str (Txt.join a ys.reverse)) H2
theorem pe_joinRev {X : Cx} {o e : Expr} {to te : TE} {apos pos p2 pos2 : Pos} (K : PySem.W.Frag) (ho : PE X o to) (he : PE X e te) (hm : X.mg "reversed" = none) (hg : Gl X "reversed" := by rfl) (hc : X.calm = true := by rfl) (hK : X.K = K := by rfl)
    (hs : starEach [.Call (.Name "reversed" p2) [e] [] pos2] X.env = [(false, eval (.Call (.Name "reversed" p2) [e] [] pos2) X.env)] := by rfl) (hs2 : starEach [e] X.env = (false, eval e X.env) :: starEach [] X.env := by rfl)
    (hbase : attributeBase o "join" X.env (eval o X.env) = eval o X.env := by rfl) (hline : (apos.endLine == pos.line) = true := by rfl) :
    PE X (.Call (.Attribute o "join" apos) [.Call (.Name "reversed" p2) [e] [] pos2] [] pos) (tJoinRev K to te) := by
  subst hK
  refine ⟨fun pins s σ H Q I h => ?_⟩
  refine PySem.Call_method1 hbase hs hline (thn (ho.run pins s σ H _ I h) fun v s1 ⟨x, H1, I1, r1, q1⟩ => ?_)
  obtain ⟨a, rfl, q1⟩ := q1
  obtain ⟨t, rfl⟩ := _root_.id r1
  refine ⟨"str", _, F.plainAttrs_str, F.slot_str_join, F.type_str_join, typeIs_str _ _ _, (fun _ e => nomatch e), Calls.callWith_builtin rfl (Calls.evalArgs_plain (Calls.spliced_cons ?_))⟩
  refine Call_ (ld_blt I1 hg hm PyProof.Rows.boot_reversed (PyProof.Rows.callWith_type1 (args_cons (thn (he.run pins s1 σ H1 _ I1 q1) fun u s2 ⟨y, H2, I2, r2, q2⟩ => args_nil ?_) hs2) hs2 rfl))
  obtain ⟨p, ys, ey, hq, hz, q⟩ := q2
  subst ey
  obtain rfl : u = Value.ref p := r2
  obtain ⟨its, rv, p', hsz⟩ := I2.list hq
  refine call_reversed_list p'.isList (Calls.spliced_nil ?_)
  have k0 : ∀ b o, s2.heap.get? b = some o → (s2.heap.push (revObj p ((its.toArray.size : Int) - 1))).get? b = some o := fun b o e => Heap.get?_push_of_some _ e
  have I3 : Inv X pins σ H2 { s2 with heap := s2.heap.push (revObj p ((its.toArray.size : Int) - 1)) } := I2.kept (t' := s2.toks) k0
  obtain ⟨f0, f1, f2, f3, f4, f5⟩ := I2.fpOk (H' := H2) (b := s2.heap.objs.size) (Nat.le_refl _) (I2.hok.fresh (Nat.le_refl _))
  have hl := p'.isList
  obtain ⟨ol, hol, _⟩ := id hl
  have hne : p ≠ s2.heap.objs.size := Nat.ne_of_lt (Heap.lt_size hol)
  have hn : its.toArray.size ≤ sizeLine := by rw [List.size_toArray, ← rv.length]; exact hsz
  have hok : JoinOk a ys.reverse = true := joinOk_of (by rw [List.map_reverse, List.sum_reverse, List.length_reverse]; exact hz)
  refine call_join_rev (s := { s2 with heap := s2.heap.push (revObj p ((its.toArray.size : Int) - 1)) }) (I2.ok.hd hc) ⟨_, Heap.get?_push_size _ rfl, rfl, rfl⟩ (hl.push _) hne hn (by rw [List.toList_toArray]; exact rv) hok fun h' tk t' hk => ?_
  have I4 : Inv X pins σ H2 { s2 with heap := h', toks := tk } := I3.turned (t' := tk) (fun b o hb e => hk b o hb e) f0 f1 f3 f4 f5
  exact ⟨.str _, H2, I4, ⟨t', rfl⟩, q⟩
end XY

namespace XY
open PySem PySem.Spec PySem.Builtin PyProof.Rows L2 XS
section
variable {prog : Program} {w : World} {A : Around} {R : Result → Shared → Prop} {I : Addr} {fp wr : List Addr} {n : Nat} {P : Nat → Value → Prop} {St : Nat → Heap → Prop} {dv : Value}
/-- the loop of max, some value told for none: one more item, or the end -/
theorem mx_loop (W : Walks prog w A.in1 I fp wr n P St) (g : Nat → Int) (hP : ∀ j v, P j v → ∃ t, v = .int (g j) t) (hcmp : CmpOf prog w A.in1 .Gt P fun i j => decide (g i > g j)) {S : Addr} (hSf : S ∉ fp) :
    ∀ (k j b : Nat) (s : Shared) (vb : Value) (c : Nat), n = j + k → 0 < j → b < j → St j s.heap → P b vb → (∀ i, i < j → g i ≤ g b) →
    s.heap.get? S = some { cls := .type "list", dict := none, data := .seq #[vb, vb] c, slots := #[] } →
    (∀ b v h' tk, P b v → b < n → (∀ i, i < n → g i ≤ g b) → (∀ d o, d ∉ wr → d ≠ S → s.heap.get? d = some o → h'.get? d = some o) → R (.ok (.ret v)) { s with heap := h', toks := tk }) →
    codeAny (model prog w) A (.builtin "max.loop" ⟨[.ref I, .none, .ref S], [("default", dv)]⟩) R s := by
  have hSw : S ∉ wr := fun h => hSf (W.sub _ h)
  have nm : (toString "max" ++ toString ".loop" : String) = "max.loop" := by decide
  intro k
  induction k with
  | zero =>
    intro j b s vb c hn h0 hb hst hPb hmx hS hR
    have ej : j = n := by omega
    subst ej
    refine codeAny_builtin F.entry_max_loop ?_
    rw [Around.under_plainId F.plain_max_loop _]
    show wpAny _ A.in1 (seqItems? (.ref S) >>= _) _ _ s
    refine wpAny_bind (wpAny_seqItems hS rfl ?_)
    show wpAny _ A.in1 (tryCatch (pyNext (.ref I)) _ >>= _) _ _ s
    refine wpAny_bind (wpAny_tryCatch (W.done s _ _ hst fun h' tk hk => ?_))
    have hS2 := hk S _ hSw hS
    show wpAny _ A.in1 (updateSeq S (fun _ => #[]) >>= _) _ _ _
    refine wpAny_bind (wpAny_updateSeq hS2 rfl (wpAny_bind (wpAny_letGo (wpAny_pure ?_))))
    exact hR b vb _ tk hPb hb hmx fun d o h1 h2 e => (Heap.get?_update_other _ _ (Ne.symm h2)).trans (hk d o h1 e)
  | succ k ih =>
    intro j b s vb c hn h0 hb hst hPb hmx hS hR
    refine codeAny_builtin F.entry_max_loop ?_
    rw [Around.under_plainId F.plain_max_loop _]
    show wpAny _ A.in1 (seqItems? (.ref S) >>= _) _ _ s
    refine wpAny_bind (wpAny_seqItems hS rfl ?_)
    show wpAny _ A.in1 (tryCatch (pyNext (.ref I)) _ >>= _) _ _ s
    refine wpAny_bind (wpAny_tryCatch (W.item j s _ _ (by omega) hst fun v h' tk hPv hst2 hk => ?_))
    have hS2 := hk S _ hSw hS
    show wpAny _ A.in1 (tryCatch (holding [v, v] (richCompare .Gt v vb >>= _)) _ >>= _) _ _ _
    refine wpAny_bind (wpAny_tryCatch (wpAny_holding (wpAny_bind (hcmp j b v vb _ _ _ hPv hPb ?_))))
    refine wpAny_bind (wpAny_holding (wpAny_truthy_bool ?_))
    refine wpAny_bind (wpAny_letGo (wpAny_pure ?_))
    by_cases hgt : g j > g b
    · rw [if_pos (show (fun i j => decide (g i > g j)) j b = true from decide_eq_true hgt)]
      refine wpAny_bind (wpAny_updateSeq hS2 rfl (wpAny_bind (wpAny_letGo ?_)))
      rw [nm]
      refine wpAny_pure ⟨plainId_quiet F.plain_max_loop _, ih (j + 1) j _ v _ (by omega) (by omega) (by omega) (W.frame _ _ _ hst2 fun d hd o e => ?_) hPv (fun i hi => ?_) (Heap.get?_update_self _ hS2 rfl) fun b' v' h2 tk2 hP2 hb2 hm2 hk2 => ?_⟩
      · exact (Heap.get?_update_other _ _ (fun z : S = d => hSf (by rw [z]; exact hd))).trans e
      · by_cases ei : i = j
        · rw [ei]; exact Int.le_refl _
        · have := hmx i (by omega); omega
      · exact hR b' v' h2 tk2 hP2 hb2 hm2 fun d o h1 h2' e => hk2 d o h1 h2' ((Heap.get?_update_other _ _ (Ne.symm h2')).trans (hk d o h1 e))
    · rw [if_neg (show ¬ (fun i j => decide (g i > g j)) j b = true from fun z => hgt (of_decide_eq_true z))]
      refine wpAny_bind (wpAny_letGo ?_)
      rw [nm]
      refine wpAny_pure ⟨plainId_quiet F.plain_max_loop _, ih (j + 1) b _ vb c (by omega) (by omega) (by omega) hst2 hPb (fun i hi => ?_) hS2 fun b' v' h2 tk2 hP2 hb2 hm2 hk2 => ?_⟩
      · by_cases ei : i = j
        · rw [ei]; omega
        · exact hmx i (by omega)
      · exact hR b' v' h2 tk2 hP2 hb2 hm2 fun d o h1 h2' e => hk2 d o h1 h2' (hk d o h1 e)
/-- the first turn -/
theorem mx_first (W : Walks prog w A.in1 I fp wr n P St) (g : Nat → Int) (hP : ∀ j v, P j v → ∃ t, v = .int (g j) t) (hcmp : CmpOf prog w A.in1 .Gt P fun i j => decide (g i > g j)) {S : Addr} (hSf : S ∉ fp) {s : Shared} {c : Nat} (hst : St 0 s.heap)
    (hS : s.heap.get? S = some { cls := .type "list", dict := none, data := .seq #[] c, slots := #[] })
    (h0 : n = 0 → ∀ h' tk, (∀ d o, d ∉ wr → d ≠ S → s.heap.get? d = some o → h'.get? d = some o) → R (.ok (.ret dv)) { s with heap := h', toks := tk })
    (hR : ∀ b v h' tk, P b v → b < n → (∀ i, i < n → g i ≤ g b) → (∀ d o, d ∉ wr → d ≠ S → s.heap.get? d = some o → h'.get? d = some o) → R (.ok (.ret v)) { s with heap := h', toks := tk }) :
    codeAny (model prog w) A (.builtin "max.loop" ⟨[.ref I, .none, .ref S], [("default", dv)]⟩) R s := by
  have hSw : S ∉ wr := fun h => hSf (W.sub _ h)
  have nm : (toString "max" ++ toString ".loop" : String) = "max.loop" := by decide
  refine codeAny_builtin F.entry_max_loop ?_
  rw [Around.under_plainId F.plain_max_loop _]
  show wpAny _ A.in1 (seqItems? (.ref S) >>= _) _ _ s
  refine wpAny_bind (wpAny_seqItems hS rfl ?_)
  show wpAny _ A.in1 (tryCatch (pyNext (.ref I)) _ >>= _) _ _ s
  cases n with
  | zero =>
    refine wpAny_bind (wpAny_tryCatch (W.done s _ _ hst fun h' tk hk => ?_))
    show wpAny _ A.in1 (rule _ >>= _) _ _ _
    refine wpAny_bind (wpAny_rule ?_)
    exact wpAny_pure (h0 rfl _ _ fun d o h1 h2 e => hk d o h1 e)
  | succ n =>
    refine wpAny_bind (wpAny_tryCatch (W.item 0 s _ _ (Nat.succ_pos _) hst fun v h' tk hPv hst2 hk => ?_))
    have hS2 := hk S _ hSw hS
    show wpAny _ A.in1 (updateSeq S _ >>= _) _ _ _
    refine wpAny_bind (wpAny_updateSeq hS2 rfl ?_)
    rw [nm]
    refine wpAny_pure ⟨plainId_quiet F.plain_max_loop _, mx_loop W g hP hcmp hSf n 1 0 _ v _ (by omega) (by omega) (by omega) (W.frame _ _ _ hst2 fun d hd o e => ?_) hPv (fun i hi => ?_) (Heap.get?_update_self _ hS2 rfl) fun b' v' h2 tk2 hP2 hb2 hm2 hk2 => ?_⟩
    · exact (Heap.get?_update_other _ _ (fun z : S = d => hSf (by rw [z]; exact hd))).trans e
    · have : i = 0 := by omega
      rw [this]
      exact Int.le_refl _
    · exact hR b' v' h2 tk2 hP2 hb2 hm2 fun d o h1 h2' e => hk2 d o h1 h2' ((Heap.get?_update_other _ _ (Ne.symm h2')).trans (hk d o h1 e))
end
end XY
namespace XY
open PySem PySem.Spec PySem.Builtin PyProof.Rows L2 XS
theorem args_max_d (a d : Value) : argsOk "max" ⟨[a], [("default", d)]⟩ := by unfold argsOk; kernel_rfl
theorem vals_int : ∀ {ns : List Int} {its : List Value}, Vals (ns.map V.int) its → its.length = ns.length ∧ ∀ (j : Nat) (v : Value), its[j]? = some v → ∃ t, v = .int (ns.getD j 0) t
  | [], its, h => by
    cases h
    exact ⟨rfl, fun j v e => by cases e⟩
  | n :: ns, its, h => by
    cases h with
    | cons a b =>
      obtain ⟨h1, h2⟩ := vals_int b
      refine ⟨by rw [List.length_cons, List.length_cons, h1], fun j v e => ?_⟩
      cases j with
      | zero =>
        cases e
        obtain ⟨t, rfl⟩ := a
        exact ⟨t, rfl⟩
      | succ j => exact h2 j v e
section
variable {prog : Program} {w : World} {A : Around} {E : Value → Shared → Prop} {s : Shared}
theorem call_max_d {l : Addr} {its : List Value} {ns : List Int} {dv : Value} {Q : Value → Shared → Prop} (hh : A.handled = none) (hl : s.heap.IsList l its.toArray) (rv : Vals (ns.map V.int) its)
    (h0 : ns = [] → ∀ h' tk, (∀ b o, s.heap.get? b = some o → h'.get? b = some o) → Q dv { s with heap := h', toks := tk })
    (h1 : ∀ h' tk M t, (∀ b o, s.heap.get? b = some o → h'.get? b = some o) → M ∈ ns → (∀ a ∈ ns, a ≤ M) → Q (.int M t) { s with heap := h', toks := tk }) :
    wpAny (model prog w) A (call (.builtin "max") [.ref l] [("default", dv)]) Q E s := by
  have nm : (toString "max" ++ toString ".loop" : String) = "max.loop" := by decide
  obtain ⟨hlen, hat⟩ := vals_int rv
  refine wpAny_call (codeAny_call_builtin F.plain_max F.entry_max ?_)
  have key : wpAny (model prog w) A.in1 (Builtin.«max» ⟨[.ref l], [("default", dv)]⟩) (fun fin s' => match fin with
      | .done f => (match (Except.ok f : Result) with | .ok (.ret v) => Q v s' | .ok _ => False | .error e => E e s')
      | .again c' => c'.quiet = true ∧ codeAny (model prog w) A c' (fun r s' => match r with | .ok (.ret v) => Q v s' | .ok _ => False | .error e => E e s') s') E s := by
    show wpAny _ A.in1 (Builtin.Builtins.bindParams "max" ["key", "default"] 0 ⟨[], [("default", dv)]⟩ >>= _) _ _ s
    refine wpAny_bind (wpAny_of_eq (show Builtin.Builtins.bindParams "max" ["key", "default"] 0 ⟨[], [("default", dv)]⟩ = pure [none, some dv] from rfl) ?_)
    refine wpAny_bind (wpAny_pure ?_)
    have hlt : l < s.heap.objs.size := by obtain ⟨_, e, _⟩ := hl; exact Heap.lt_size e
    refine wpAny_bind (wpAny_pyIter_list hl ?_)
    refine wpAny_bind (wpAny_newObj_type ?_)
    have sz1 : (s.heap.push ({ cls := .type "list_iterator", data := .fields #[.ref l, .int 0 0] } : Obj)).objs.size = s.heap.objs.size + 1 := Heap.size_push ..
    rw [nm]
    refine wpAny_pure ⟨plainId_quiet F.plain_max_loop _, mx_first (Walks.list (A := A.in1) hh s.heap.objs.size l (Nat.ne_of_lt hlt) its.toArray) (fun j => ns.getD j 0) (fun j v hv => hat j v (by simpa using hv)) (CmpOf.ints_gt _ fun j v hv => hat j v (by simpa using hv)) ?_ ?_ (Heap.get?_push_size _ rfl) (fun e0 h' tk hk => ?_) fun b v h' tk hv hb hm hk => ?_⟩
    · rw [sz1]
      intro hc
      rcases List.mem_cons.mp hc with z | z
      · have z2 : (s.heap.objs.size + 1 : Nat) = s.heap.objs.size := z
        omega
      · rcases List.mem_cons.mp z with z | z
        · refine absurd hlt ?_
          rw [← z]
          exact Nat.not_lt.mpr (Nat.le_succ _)
        · cases z
    · exact ⟨⟨_, Heap.get?_push_of_some _ (Heap.get?_push_size _ rfl), rfl, rfl⟩, (hl.push _).push _⟩
    · refine h0 (List.length_eq_zero_iff.mp (by rw [← hlen]; simpa using e0)) h' tk fun b o e => hk b o (fun hc => ?_) (fun z => ?_) (Heap.get?_push_of_some _ (Heap.get?_push_of_some _ e))
      · exact absurd (Heap.lt_size e) (by rw [List.mem_singleton.mp hc]; exact Nat.lt_irrefl _)
      · refine absurd (Heap.lt_size e) ?_
        rw [z, sz1]
        exact Nat.not_lt.mpr (Nat.le_succ _)
    · obtain ⟨t, rfl⟩ := hat b v (by simpa using hv)
      have hb' : b < ns.length := by rw [← hlen]; simpa using hb
      refine h1 h' tk _ t (fun b o e => hk b o (fun hc => ?_) (fun z => ?_) (Heap.get?_push_of_some _ (Heap.get?_push_of_some _ e))) ?_ fun a ha => ?_
      · exact absurd (Heap.lt_size e) (by rw [List.mem_singleton.mp hc]; exact Nat.lt_irrefl _)
      · refine absurd (Heap.lt_size e) ?_
        rw [z, sz1]
        exact Nat.not_lt.mpr (Nat.le_succ _)
      · rw [List.getD_eq_getElem?_getD, List.getElem?_eq_getElem hb']
        exact List.getElem_mem hb'
      · obtain ⟨i, hi, rfl⟩ := List.mem_iff_getElem.mp ha
        have := hm i (by rw [← hlen] at hi; simpa using hi)
        rw [List.getD_eq_getElem?_getD, List.getElem?_eq_getElem hi] at this
        exact this
  have hk : builtinKind "max" = none := F.kind_max
  simp only [checkBuiltinCall, hk]
  have ha := args_max_d (.ref l) dv
  cases hsig : Manifest.signature? "max" with
  | none => exact wpAny_pure key
  | some sig =>
    simp only [argsOk, hsig] at ha
    have h2 : Bind.checkArgs "max" sig ⟨[.ref l], [("default", dv)]⟩ = pure () := ha
    show wpAny _ A.in1 (Bind.checkArgs "max" sig ⟨[.ref l], [("default", dv)]⟩) _ _ s
    rw [h2]
    exact wpAny_pure key
end
def rMaxD (K : PySem.W.Frag) : List V → List V → Hp → VK → Prop := fun vs zs H Q => ∃ (a : Addr) (ns : List Int), vs = [.ref a] ∧ zs = [.int 0] ∧ SqL K H a (ns.map V.int) ∧ Q (.int (ns.foldr max 0)) H ∧ ∀ n ∈ ns, 0 ≤ n
theorem foldr_max : ∀ {ns : List Int} {M : Int}, M ∈ ns → (∀ a ∈ ns, a ≤ M) → 0 ≤ M → ns.foldr max 0 = M := by
  intro ns M hM hle h0
  have h1 : ∀ l : List Int, (∀ a ∈ l, a ≤ M) → l.foldr max 0 ≤ M := fun l hl => by
    induction l with
    | nil => exact h0
    | cons a l ih =>
      have := hl a (List.mem_cons_self ..)
      have := ih fun b hb => hl b (List.mem_cons_of_mem _ hb)
      show max a (l.foldr max 0) ≤ M
      omega
  have h2 : ∀ l : List Int, M ∈ l → M ≤ l.foldr max 0 := fun l hl => by
    induction l with
    | nil => cases hl
    | cons a l ih =>
      show M ≤ max a (l.foldr max 0)
      rcases List.mem_cons.mp hl with e | h
      · omega
      · have := ih h; omega
  exact Int.le_antisymm (h1 ns hle) (h2 ns hM)
theorem cr_maxD {X : Cx} (K : PySem.W.Frag) (hc : X.calm = true) (hK : X.K = K := by rfl) : CallRK X (.builtin "max") ["default"] (rMaxD K) := by
  subst hK
  intro pins s σ H xs zs us ws Q I rx rz h
  obtain ⟨a, ns, rfl, rfl, hs, q, hp⟩ := h
  obtain ⟨its, rv, hl, _⟩ := I.list hs
  rw [Vals.ref1 rx]
  cases rz with
  | cons r0 r1 =>
    cases r1
    obtain ⟨t0, rfl⟩ := r0
    show wpAny _ _ (call (.builtin "max") [.ref a] [("default", .int 0 t0)]) _ _ s
    refine call_max_d (I.ok.hd hc) hl.isList rv (fun e h' tk hk => ?_) fun h' tk M t hk hM hle => ?_
    · subst e
      exact ⟨.int _, H, I.kept hk, ⟨_, rfl⟩, q⟩
    · rw [foldr_max hM hle (hp M hM)] at q
      exact ⟨.int _, H, I.kept hk, ⟨_, rfl⟩, q⟩
end XY
namespace XY
open PySem PySem.Spec PyProof.Rows L2 XS
/-- built-in names, still more -/
structure Bl3 (mg : Str → Option Value) : Prop where
  divmod : mg "divmod" = none
  reversed : mg "reversed" = none
theorem call_divmodN {X : Cx} : CallR X (.builtin "divmod") (fun xs H Q => ∃ i j, xs = [.int i, .int j] ∧ CDiv i j ∧ ∀ p, H p = none → Q (.ref p) (upd H p (.tup [.int (i / j), .int (i % j)]))) := call_divmod
/-! ### promises of the writing -/
theorem figs_abs {n : Int} : nS n = if n < 0 then "-" ++ nS (if n < 0 then -n else n) else nS (if n < 0 then -n else n) := by
  cases n with
  | ofNat m =>
    have h : ¬ (Int.ofNat m < 0) := Int.not_lt.mpr (Int.natCast_nonneg m)
    rw [if_neg h, if_neg h]
  | negSucc m =>
    have h : Int.negSucc m < 0 := Int.negSucc_lt_zero m
    rw [if_pos h, if_pos h]
    apply cs_inj
    rw [cs_neg]
    have e : cs ("-" ++ nS (-Int.negSucc m)) = 45 :: cs (nS (-Int.negSucc m)) := by
      show (("-" : Str).cps ++ (nS (-Int.negSucc m)).cps).toList = _
      rw [Array.toList_append]
      rfl
    rw [e, show -Int.negSucc m = ((m + 1 : Nat) : Int) from rfl, cs_nat]
def sp_figures : Sp := fun vs H Q _ => ∃ n : Int, vs = [.int n] ∧ n.natAbs < 10 ^ 60 ∧ ∀ H', Same H H' → Q (.str (nS n)) H'
end XY
namespace XY
open PySem PySem.Spec PyProof.Rows L2 XS
theorem x_joinRev {K : PySem.W.Frag} {to te : TE} {σ : L2.St} {H : Hp} {Q : VK} (h : to σ H fun x H1 => ∃ a, x = .str a ∧ te σ H1 fun y H2 => ∃ p, ∃ ys : List Str, y = .ref p ∧ SqL K H2 p (ys.map V.str) ∧ (ys.map (·.length)).sum + ys.length * a.length ≤ 16777216 ∧ Q (.str (Txt.join a ys.reverse)) H2) : tJoinRev K to te σ H Q := h
theorem join1 (x : Str) : Txt.join "" [x] = x := by
  rw [TL.join_eq]
  rfl
theorem join2 (x y : Str) : Txt.join "" [x, y] = x ++ y := by
  rw [TL.join_eq]
  apply cs_inj
  show TL.tl (Str.join "" [x, y]) = TL.tl (x ++ y)
  rw [TL.tl_join, TL.tl_append, show TL.tl "" = [] by decide +kernel]
  simp [TL.joinL]
end XY
namespace XY
open PySem PySem.Spec PyProof.Rows L2 XS
def sp_write_sum (K : PySem.W.Frag) : Sp := fun vs H Q _ => ∃ (v : V) (p : Addr) (s : Sm) (xs : List Str), vs = [v, .ref p] ∧ Dp K H v (sumD s) ∧ H p = some (.lst (xs.map V.str)) ∧ NSm s ∧ xs.length + (wSum s).length ≤ WL ∧ ∀ H', But p H H' → H' p = some (.lst ((xs ++ wSum s).map V.str)) → Q .non H'
def sp_write (n : Nat) (K : PySem.W.Frag) : Sp := fun vs H Q _ => ∃ (v : V) (p : Addr) (a : Stm) (xs : List Str), vs = [v, .ref p] ∧ Dp K H v (toD a) ∧ H p = some (.lst (xs.map V.str)) ∧ Nt a ∧ dep a ≤ n ∧ xs.length + (wds a).length ≤ WL ∧ ∀ H', But p H H' → H' p = some (.lst ((xs ++ wds a).map V.str)) → Q .non H'
def sp_written (K : PySem.W.Frag) : Sp := fun vs H Q _ => ∃ (v : V) (a : Stm), vs = [v] ∧ Dp K H v (toD a) ∧ Nt a ∧ dep a ≤ 40 ∧ (wds a).length ≤ 100000 ∧ ∀ H', Same H H' → Q (.str (Txt.join " " (wds a))) H'
theorem wPs_len (ps : List Pr) : (wPs ps).length = 2 * ps.length := by
  induction ps with
  | nil => rfl
  | cons p ps ih =>
    have e1 : (wPs (p :: ps)).length = 2 + (wPs ps).length := by
      show ([nS p.2, p.1] ++ wPs ps).length = _
      rw [List.length_append]
      rfl
    have e2 : (p :: ps).length = ps.length + 1 := rfl
    omega
theorem wPs_more {ps : List Pr} {i : Nat} {p : Pr} (h : ps[i]? = some p) : wPs (ps.take (i + 1)) = wPs (ps.take i) ++ [nS p.2, p.1] := by
  rw [XS.take_more h]
  unfold wPs
  rw [List.flatMap_append]
  rfl
end XY
namespace XY
open PySem PySem.Spec PyProof.Rows L2 XS
theorem but_kl {d : Addr} {H H1 : Hp} {xs : List V} (b : But d H H1) (h : H d = some (.lst xs)) : Keeps H H1 := fun c u k e => by
  refine b c u (fun z => ?_) e
  subst z
  rw [h] at e
  cases e
  rcases k with ⟨_, z⟩ | ⟨_, _, z⟩ <;> cases z
end XY
namespace XY
open PySem PySem.Spec PyProof.Rows L2 XS
theorem sum_le {l : List Str} {k : Nat} (h : ∀ w ∈ l, w.length ≤ k) : (l.map (·.length)).sum ≤ k * l.length := by
  induction l with
  | nil => simp
  | cons a l ih =>
    have h1 := h a (List.mem_cons_self ..)
    have h2 := ih fun w hw => h w (List.mem_cons_of_mem _ hw)
    rw [List.map_cons, List.sum_cons, List.length_cons, Nat.mul_succ]
    omega
/-- a word of a note -/
def Wd (w : Str) : Prop := w.length ≤ 61 ∧ 32 ∉ cs w
theorem wd_num {n : Int} (h : n.natAbs < 10 ^ 60) : Wd (nS n) := ⟨nS_len h, (numOk_free (numOk_nS h)).1⟩
theorem wd_name {x : Str} (h : nameOk (cs x) = true) : Wd x := by
  unfold nameOk at h
  simp only [Bool.and_eq_true, decide_eq_true_eq] at h
  refine ⟨by rw [← cs_len]; omega, fun hc => ?_⟩
  have := List.all_eq_true.mp h.2 32 hc
  cases this
theorem wd_sum {s : Sm} (h : NSm s) : ∀ w ∈ wSum s, Wd w := by
  intro w hw
  have hw : w ∈ nS s.1 :: (wPs s.2 ++ [(";" : Str)]) := hw
  rcases List.mem_cons.mp hw with rfl | hw
  · exact wd_num h.n
  rcases List.mem_append.mp hw with hw | hw
  · obtain ⟨p, hp, hw⟩ := List.mem_flatMap.mp hw
    obtain ⟨h1, h2⟩ := h.p p hp
    rcases List.mem_cons.mp hw with rfl | hw
    · exact wd_num h1
    · rw [List.mem_singleton.mp hw]
      exact wd_name h2
  · rw [List.mem_singleton.mp hw]
    exact ⟨by decide +kernel, by decide +kernel⟩
theorem wdss_mem {w : Str} : ∀ {l : List Stm}, w ∈ wdss l → ∃ a ∈ l, w ∈ wds a
  | [], h => by cases h
  | a :: l, h => by
    rcases List.mem_append.mp (show w ∈ wds a ++ wdss l from h) with h | h
    · exact ⟨a, List.mem_cons_self .., h⟩
    · obtain ⟨b, hb, h⟩ := wdss_mem h
      exact ⟨b, List.mem_cons_of_mem _ hb, h⟩
theorem wd_wds {a : Stm} (h : Nt a) : ∀ w ∈ wds a, Wd w := by
  have lit : ∀ x : Str, x.length ≤ 61 → 32 ∉ cs x → Wd x := fun x a b => ⟨a, b⟩
  induction h with
  | above hs =>
    intro w hw
    rcases List.mem_cons.mp hw with rfl | hw
    · exact lit _ (by decide +kernel) (by decide +kernel)
    · exact wd_sum hs w hw
  | nought hs =>
    intro w hw
    rcases List.mem_cons.mp hw with rfl | hw
    · exact lit _ (by decide +kernel) (by decide +kernel)
    · exact wd_sum hs w hw
  | goes h1 hm hs =>
    intro w hw
    rcases List.mem_cons.mp hw with rfl | hw
    · exact lit _ (by decide +kernel) (by decide +kernel)
    rcases List.mem_cons.mp hw with rfl | hw
    · exact wd_num hm
    · exact wd_sum hs w hw
  | neg _ ih =>
    intro w hw
    rcases List.mem_cons.mp hw with rfl | hw
    · exact lit _ (by decide +kernel) (by decide +kernel)
    · exact ih w hw
  | @con o l _ hl ih =>
    intro w hw
    rcases List.mem_cons.mp hw with rfl | hw
    · cases o <;> exact lit _ (by decide +kernel) (by decide +kernel)
    rcases List.mem_cons.mp hw with rfl | hw
    · exact wd_num (by omega)
    · obtain ⟨a, ha, hw⟩ := wdss_mem hw
      exact ih a ha w hw
  | @bnd o x a hx _ ih =>
    intro w hw
    rcases List.mem_cons.mp hw with rfl | hw
    · cases o <;> exact lit _ (by decide +kernel) (by decide +kernel)
    rcases List.mem_cons.mp hw with rfl | hw
    · exact wd_name hx
    · exact ih w hw
theorem wds_ne (a : Stm) : wds a ≠ [] := by cases a <;> exact List.cons_ne_nil _ _
/-- a note's words are its statement's -/
theorem wof_join {l : List Str} (hne : l ≠ []) (h : ∀ w ∈ l, Wd w) : wof (Txt.join " " l) = l := by
  unfold wof
  exact TL.split_join (y := " ") (s := 32) (S := []) (by decide +kernel) (by decide +kernel) hne fun w hw => (h w hw).2
end XY
namespace XY
open PySem PySem.Spec PyProof.Rows L2 XS
def sp_lsum_words (K : PySem.W.Frag) : Sp := fun vs H Q _ => ∃ (v : V) (s : Sm), vs = [v] ∧ Dp K H v (sumD s) ∧ NSm s ∧ (wSum s).length ≤ WL ∧ ∀ t H', Same H H' → H' t = some (.lst ((wSum s).map V.str)) → Q (.ref t) H'
def sp_lwords (n : Nat) (K : PySem.W.Frag) : Sp := fun vs H Q _ => ∃ (v : V) (a : Stm), vs = [v] ∧ Dp K H v (toD a) ∧ Nt a ∧ dep a ≤ n ∧ (wds a).length ≤ WL ∧ ∀ t H', Same H H' → H' t = some (.lst ((wds a).map V.str)) → Q (.ref t) H'
def sp_lwithin (n : Nat) (K : PySem.W.Frag) : Sp := fun vs H Q _ => ∃ (v : V) (a : Stm), vs = [v] ∧ Dp K H v (toD a) ∧ dep a ≤ n ∧ (wds a).length ≤ 40000 ∧ ∀ H', Same H H' → Q (.int (dep a)) H'
end XY
namespace XY
open PySem PySem.Spec PyProof.Rows L2 XS
/-- list + list: a new one -/
theorem x_catL {H : Hp} {Q : VK} {p q : Addr} {xs ys : List V} (hp : H p = some (.lst xs)) (hq : H q = some (.lst ys)) (hz : xs.length + ys.length ≤ WL) (k : ∀ t H', H t = none → Same H H' → H' t = some (.lst (xs ++ ys)) → Q (.ref t) H') : rCat (.ref p) (.ref q) H Q :=
  ⟨p, q, xs, ys, rfl, rfl, hp, hq, Nat.le_trans hz (by decide), fun t ht => k t _ ht (same_upd ht) upd_same⟩
end XY
namespace XY
open PySem PySem.Spec PyProof.Rows L2 XS
theorem wdss_len : ∀ l : List Stm, l.length ≤ (wdss l).length
  | [] => Nat.le_refl 0
  | a :: l => by
    have h1 := wdss_len l
    have h2 := List.length_pos_iff.mpr (wds_ne a)
    show l.length + 1 ≤ (wds a ++ wdss l).length
    rw [List.length_append]
    omega
theorem wdss_in {a : Stm} : ∀ {l : List Stm}, a ∈ l → (wds a).length ≤ (wdss l).length
  | b :: l, h => by
    show _ ≤ (wds b ++ wdss l).length
    rw [List.length_append]
    rcases List.mem_cons.mp h with rfl | h
    · omega
    · have := wdss_in h; omega
theorem foldr_deps : ∀ l : List Stm, (l.map fun c => (dep c : Int)).foldr max 0 = (deps l : Int)
  | [] => rfl
  | a :: l => by
    have h := foldr_deps l
    show max (dep a : Int) ((l.map fun c => (dep c : Int)).foldr max 0) = ((max (dep a) (deps l) : Nat) : Int)
    rw [h]
    omega
end XY
namespace XY
open PySem PySem.Spec PyProof.Rows L2 XS
theorem x_ckw {r : List V → List V → Hp → VK → Prop} {t tk : TA} {σ : L2.St} {H : Hp} {Q : VK} (h : t σ H fun vs H1 => tk σ H1 fun zs H2 => r vs zs H2 Q) : tCKw r t tk σ H Q := h
end XY

namespace XY
open PySem PySem.Spec PyProof.Rows L2 XS
/-! ### the law's own reading -/
theorem numOk_law (l : List Nat) : numOk l = (decide (figs l ≠ []) && decide ((figs l).length ≤ 60) && !decide (l = [45, 48]) && !(decide ((figs l).head? = some 48) && decide (1 < (figs l).length)) && (figs l).all dig) := by
  have e1 : decide (1 ≤ (figs l).length) = decide (figs l ≠ []) := by
    rw [decide_eq_decide]
    cases figs l <;> simp
  have e2 : (decide (figs l ≠ []) && !(decide ((figs l).head? = some 48) && decide (l ≠ [48]))) = (decide (figs l ≠ []) && (!decide (l = [45, 48]) && !(decide ((figs l).head? = some 48) && decide (1 < (figs l).length)))) := by
    rcases figs_cases l with ⟨r, e, er⟩ | ⟨er, no⟩
    · rw [er, e]
      cases r with
      | nil => rfl
      | cons a r =>
        by_cases ha : a = 48
        · subst ha
          cases r with
          | nil => decide
          | cons b r => simp
        · simp [ha]
    · rw [er]
      have h0 : l ≠ [45, 48] := fun z => no [48] z
      cases l with
      | nil => rfl
      | cons a r =>
        by_cases ha : a = 48
        · subst ha
          cases r with
          | nil => decide
          | cons b r => simp
        · simp [ha, h0]
  unfold numOk
  rw [e1]
  generalize decide (figs l ≠ []) = A at e2 ⊢
  generalize decide ((figs l).length ≤ 60) = B
  generalize (figs l).all dig = C
  generalize (!(decide ((figs l).head? = some 48) && decide (l ≠ [48]))) = D at e2 ⊢
  generalize (!decide (l = [45, 48])) = E1 at e2 ⊢
  generalize (!(decide ((figs l).head? = some 48) && decide (1 < (figs l).length))) = G at e2 ⊢
  cases A <;> cases B <;> cases C <;> cases D <;> cases E1 <;> cases G <;> simp_all
def sp_lnumber : Sp := fun vs H Q _ => ∃ x : Str, vs = [.str x] ∧ x.length ≤ WL ∧ (∀ n, num x = some n → Q (.int n) H) ∧ (num x = none → Q .non H)
def sp_lname : Sp := fun vs H Q _ => ∃ x : Str, vs = [.str x] ∧ x.length ≤ WL ∧ Q (.bl (nameOk (cs x))) H
theorem str_empty {x : Str} : x = Str.ofString "" ↔ cs x = [] := ⟨fun e => by rw [e]; decide +kernel, fun e => cs_inj (by rw [e]; decide +kernel)⟩
theorem take1_dash {l : List Nat} : l.take 1 = [45] ↔ ∃ r, l = 45 :: r := by
  cases l with
  | nil => simp
  | cons a r => simp
end XY
namespace XY
open PySem PySem.Spec PyProof.Rows L2 XS
theorem plain_cut (x : Str) : cs (cutS x (some (if decide (cutS x none (some 1) = Str.ofString "-") = true then (1 : Int) else 0)) none) = figs (cs x) := by
  have e1 : cutS x none (some 1) = Str.ofString "-" ↔ ∃ r, cs x = 45 :: r := by
    rw [← take1_dash]
    have e := cs_upto x 1
    constructor
    · intro h
      rw [← e]
      show cs (cutS x none (some 1)) = [45]
      rw [h]
      decide +kernel
    · intro h
      refine cs_inj ?_
      show cs (cutS x none (some ((1 : Nat) : Int))) = _
      rw [e, h]
      decide +kernel
  rcases figs_cases (cs x) with ⟨r, e, er⟩ | ⟨er, no⟩
  · rw [if_pos (decide_eq_true (e1.mpr ⟨r, e⟩))]
    show cs (cutS x (some ((1 : Nat) : Int)) none) = _
    rw [cs_from, er, e]
    rfl
  · rw [if_neg (by rw [decide_eq_true_eq, e1]; rintro ⟨r, h⟩; exact no r h)]
    show cs (cutS x (some ((0 : Nat) : Int)) none) = _
    rw [cs_from, er]
    rfl
theorem str_m0 {x : Str} : x = Str.ofString "-0" ↔ cs x = [45, 48] := ⟨fun e => by rw [e]; decide +kernel, fun e => cs_inj (by rw [e]; decide +kernel)⟩
theorem one_eq {c : Nat} : ((⟨#[c]⟩ : Str) = Str.ofString "0") ↔ c = 48 := by
  constructor
  · intro h
    have h2 : cs (⟨#[c]⟩ : Str) = cs (Str.ofString "0") := by rw [h]
    have h3 : [c] = [48] := h2.trans (by decide +kernel)
    cases h3
    rfl
  · intro h
    subst h
    exact cs_inj (by decide +kernel)
end XY
namespace XY
open PySem PySem.Spec PyProof.Rows L2 XS
theorem at0 {α : Type} {l : List α} {a : α} {r : List α} (h : l = a :: r) : atI l 0 = some a := by
  subst h
  unfold atI ixN
  rw [if_pos (by omega), if_pos (by simp)]
  rfl
end XY
namespace XY
open PySem PySem.Spec PyProof.Rows L2 XS
def rNeM (K : PySem.W.Frag) : R2 := fun x y H Q => ∃ d e, Dp K H x d ∧ Dp K H y e ∧ d.plain = true ∧ Flt e ∧ Q (.bl (!PyData.eqv d e)) H
theorem op_neM {X : Cx} (K : PySem.W.Frag) (hu : X.A.units + 64 < cLine) (hK : X.K = K := by rfl) : OpR X (compareOp .NotEq) (rNeM K) := by
  subst hK
  intro pins s σ H x y v u Q I rx ry h
  obtain ⟨d, e, hd, he, sd, se, q⟩ := h
  obtain ⟨as, r1⟩ := Dp.reads I d x v hd rx
  obtain ⟨bs, r2⟩ := Dp.reads I e y u he ry
  exact SeqAt.ne_plain r1 r2 sd se.pl (by have := se.dp; omega) ⟨.bl _, H, I, rfl, q⟩
theorem plain_strs (l : List Str) : (PyData.list (l.map PyData.str)).plain = true := by
  show PyData.plainAll (l.map PyData.str) = true
  exact plainAll fun d hd => by
    obtain ⟨p, _, rfl⟩ := List.mem_map.mp hd
    rfl
section
variable {K : PySem.W.Frag} {H : Hp} {Q : VK} {p q : Addr}
/-- a list of texts, of pairs: is it the empty list -/
theorem x_eqE {l : List Str} (h1 : SqL K H p (l.map V.str)) (h2 : SqL K H q []) (k : Q (.bl l.isEmpty) H) : rEqM K (.ref p) (.ref q) H Q :=
  ⟨_, _, .lst h1 (DpAll.ofStrs l), .lst h2 .nil, plain_strs l, flt_nil, by rw [eqv_nil, List.isEmpty_map]; exact k⟩
theorem x_neE {l : List Str} (h1 : SqL K H p (l.map V.str)) (h2 : SqL K H q []) (k : Q (.bl (!l.isEmpty)) H) : rNeM K (.ref p) (.ref q) H Q :=
  ⟨_, _, .lst h1 (DpAll.ofStrs l), .lst h2 .nil, plain_strs l, flt_nil, by rw [eqv_nil, List.isEmpty_map]; exact k⟩
theorem x_neP {ps : List Pr} {us : List V} (h1 : SqL K H p us) (hd : DpAll K H us (ps.map prT)) (h2 : SqL K H q []) (k : Q (.bl (!ps.isEmpty)) H) : rNeM K (.ref p) (.ref q) H Q :=
  ⟨_, _, .lst h1 hd, .lst h2 .nil, (flt_prs ps).pl, flt_nil, by rw [eqv_nil, List.isEmpty_map]; exact k⟩
/-- xs[k:] -/
theorem x_from {xs : List V} {k : Nat} (h : SqL K H p xs) (q1 : ∀ t H', H t = none → Same H H' → H' t = some (.lst (xs.drop k)) → Q (.ref t) H') : rSlL K (.ref p) (some (k : Int)) none H Q :=
  ⟨p, xs, rfl, h, fun t ht => by rw [cut_drop]; exact q1 t _ ht (same_upd ht) upd_same⟩
end
/-- a list of words that is tracked -/
structure WtOk (H : Hp) (p : Addr) (ws : List Str) : Prop where
  l : H p = some (.lst (ws.map V.str))
  n : ws.length ≤ 1000000
  w : ∀ x ∈ ws, x.length ≤ WL
theorem WtOk.same {H H' : Hp} {p : Addr} {ws : List Str} (h : WtOk H p ws) (e : Same H H') : WtOk H' p ws := ⟨e _ _ h.l, h.n, h.w⟩
/-- how the law's reading ends -/
def LEnd {α : Type} (K : PySem.W.Frag) (got : Option (α × List Str)) (d : α → PyData) (H : Hp) (Q : VK) : Prop :=
  (∀ a r, got = some (a, r) → ∀ (t u p : Addr) (H' : Hp), Same H H' → H p = none → Dp K H' (.ref t) (d a) → SqT K H' u [.ref t, .ref p] → H' p = some (.lst (r.map V.str)) → Q (.ref u) H') ∧ (got = none → ∀ H', Same H H' → Q .non H')
def sp_lsum_along (K : PySem.W.Frag) : Sp := fun vs H Q _ => ∃ (p : Addr) (ws : List Str), vs = [.ref p] ∧ WtOk H p ws ∧ LEnd K (pSum ws) sumD H Q
theorem pSum_of0 {ws : List Str} (h : pPs none (ws.drop 1) = none) : pSum ws = none := by
  cases ws with
  | nil => rfl
  | cons w r =>
    have h : pPs none r = none := h
    cases e : num w with
    | none => exact pSum_num e
    | some k => rw [pSum_go e, h]; rfl
end XY
namespace XY
open PySem PySem.Spec PyProof.Rows L2 XS
def pCs (n : Nat) : List Str → Option (List Stm × List Str)
  | [] => none
  | c :: r => match num c with
    | none => none
    | some k => if 0 ≤ k then pP (pS n) r.length k.toNat r else none
theorem pCs_num {n : Nat} {d : Str} {r : List Str} (h : num d = none) : pCs n (d :: r) = none := by rw [pCs, h]
theorem pCs_some {n : Nat} {d : Str} {r : List Str} {k : Int} (h : num d = some k) : pCs n (d :: r) = if 0 ≤ k then pP (pS n) r.length k.toNat r else none := by rw [pCs, h]
theorem pCon_cs (n : Nat) (o : Bool) (ws : List Str) : pCon n o ws = (pCs n ws).map fun q => (.con o q.1, q.2) := by
  cases ws with
  | nil => rfl
  | cons c r =>
    cases h : num c with
    | none => rw [pCon_num h, pCs_num h]; rfl
    | some k =>
      rw [pCon_some h, pCs_some h]
      split <;> rfl
def sp_lalong (n : Nat) (K : PySem.W.Frag) : Sp := fun vs H Q _ => ∃ (p : Addr) (ws : List Str), vs = [.ref p, .int (40 - n)] ∧ WtOk H p ws ∧ n ≤ 40 ∧ LEnd K (pS n ws) toD H Q
def sp_lparts (n : Nat) (K : PySem.W.Frag) : Sp := fun vs H Q _ => ∃ (p : Addr) (ws : List Str), vs = [.ref p, .int (40 - n)] ∧ WtOk H p ws ∧ n ≤ 40 ∧ LEnd K (pCs n ws) (fun l => PyData.tuple (l.map toD)) H Q
theorem wt_suf {H : Hp} {p : Addr} {ws r : List Str} (h : H p = some (.lst (r.map V.str))) (s : SufE r ws) (hn : ws.length ≤ 1000000) (hw : ∀ x ∈ ws, x.length ≤ WL) : WtOk H p r := by
  rcases s with rfl | ⟨q, _, rfl⟩
  · exact ⟨h, hn, hw⟩
  · exact ⟨h, by rw [List.length_append] at hn; omega, fun x hx => hw x (List.mem_append.mpr (.inr hx))⟩
end XY
namespace XY
open PySem PySem.Spec PyProof.Rows L2 XS
theorem none_back {H H' : Hp} {p : Addr} (e : Same H H') (h : H' p = none) : H p = none := by
  cases q : H p with
  | none => rfl
  | some o => rw [e _ _ q] at h; cases h
end XY
namespace XY
open PySem PySem.Spec PyProof.Rows L2 XS
theorem pe_orTK {X : Cx} {a b : Expr} {rest : List Expr} {pos : Pos} {ta tb : TE} (K : PySem.W.Frag) (ha : PE X a ta) (hb : PE X (.BoolOp .Or (b :: rest) pos) tb) (hK : X.K = K := by rfl) : PE X (.BoolOp .Or (a :: b :: rest) pos) (tOrT K ta tb) := by
  subst hK
  exact pe_orT ha hb
theorem x_orT {K : PySem.W.Frag} {ta tb : TE} {σ : L2.St} {H : Hp} {Q : VK} (h : ta σ H fun x H1 => ∃ k, TruV K x H1 k ∧ if k = true then Q x H1 else tb σ H1 Q) : tOrT K ta tb σ H Q := h
end XY
namespace XY
open PySem PySem.Spec PyProof.Rows L2 XS
theorem mkConD {K : PySem.W.Frag} {H : Hp} {t : Addr} {u : V} {o : Bool} {l : List Stm} (h : SqT K H t [.str (conW o), u]) (g : Dp K H u (.tuple (l.map toD))) : Dp K H (.ref t) (toD (.con o l)) := by
  cases g with
  | tup hs ha => exact XS.Dp.mkCon h rfl hs ha
end XY

namespace XY
open PySem PySem.Spec PyProof.Rows L2 XS
/-- data of ints, texts, True, None, tuples and lists, n deep at most, of any length that a note can tell -/
inductive AlB : Nat → PyData → Prop
  | int {n : Nat} (i : Int) : AlB n (.int i)
  | str {n : Nat} (x : Str) : AlB n (.str x)
  | tru {n : Nat} : AlB n (.bool true)
  | non {n : Nat} : AlB n .none
  | tup {n : Nat} {ds : List PyData} : (∀ d ∈ ds, AlB n d) → ds.length ≤ WL → AlB (n + 1) (.tuple ds)
  | lst {n : Nat} {ds : List PyData} : (∀ d ∈ ds, AlB n d) → ds.length ≤ WL → AlB (n + 1) (.list ds)
theorem AlB.up {n m : Nat} {d : PyData} (h : AlB n d) (hm : n ≤ m) : AlB m d := by
  induction h generalizing m with
  | int i => exact .int i
  | str x => exact .str x
  | tru => exact .tru
  | non => exact .non
  | tup h hl ih =>
    obtain ⟨k, rfl⟩ : ∃ k, m = k + 1 := ⟨m - 1, by omega⟩
    exact .tup (fun d hd => ih d hd (by omega)) hl
  | lst h hl ih =>
    obtain ⟨k, rfl⟩ : ∃ k, m = k + 1 := ⟨m - 1, by omega⟩
    exact .lst (fun d hd => ih d hd (by omega)) hl
theorem alB_list {n : Nat} {l : List PyData} (h : ∀ d ∈ l, AlB n d) (hl : l.length ≤ 3) : AlB (n + 1) (.tuple l) := .tup h (Nat.le_trans hl (by decide))
theorem alB_sum {n : Nat} {s : Sm} (h : s.2.length ≤ WL) : AlB (n + 3) (sumD s) := by
  refine alB_list (fun d hd => ?_) (by simp)
  rcases List.mem_cons.mp hd with rfl | hd
  · exact .int _
  rw [List.mem_singleton.mp hd]
  refine .tup (fun d hd => ?_) (by rw [List.length_map]; exact h)
  obtain ⟨p, _, rfl⟩ := List.mem_map.mp hd
  refine alB_list (fun d hd => ?_) (by simp)
  rcases List.mem_cons.mp hd with rfl | hd
  · exact .str _
  · rw [List.mem_singleton.mp hd]; exact .int _
theorem pPs_len : ∀ (n : Nat) (ws : List Str), ws.length ≤ n → ∀ (last : Option Str) (l : List Pr) (r : List Str), pPs last ws = some (l, r) → l.length ≤ ws.length := by
  intro n
  induction n with
  | zero =>
    intro ws h last l r e
    cases ws with
    | nil => cases e
    | cons _ _ => simp at h
  | succ n ih =>
    intro ws h last l r e
    cases ws with
    | nil => cases e
    | cons w ws =>
      unfold pPs at e
      split at e
      · cases e; simp
      · split at e
        · cases e
        · split at e
          · cases e
          · rename_i x r'
            split at e
            · obtain ⟨q, hq, eq⟩ := Option.map_eq_some_iff.mp e
              cases eq
              have := ih r' (by simp at h; omega) _ q.1 q.2 hq
              simp
              omega
            · cases e
theorem pSum_len {ws : List Str} {s : Sm} {r : List Str} (e : pSum ws = some (s, r)) : s.2.length ≤ ws.length := by
  cases ws with
  | nil => cases e
  | cons w ws =>
    cases hk : num w with
    | none => rw [pSum_num hk] at e; cases e
    | some k =>
      rw [pSum_go hk] at e
      obtain ⟨q, hq, eq⟩ := Option.map_eq_some_iff.mp e
      cases eq
      have := pPs_len _ ws (Nat.le_refl _) _ q.1 q.2 hq
      simp
      omega
theorem pP_all {f : List Str → Option (Stm × List Str)} {P : Stm → Prop} {N : Nat} (hs : ∀ ws a r, f ws = some (a, r) → Suf r ws) (hf : ∀ ws a r, ws.length ≤ N → f ws = some (a, r) → P a) : ∀ (m k : Nat) (ws : List Str) (l : List Stm) (r : List Str), ws.length ≤ N → pP f m k ws = some (l, r) → (∀ a ∈ l, P a) ∧ l.length + r.length ≤ ws.length := by
  intro m
  induction m with
  | zero =>
    intro k ws l r hn e
    cases k with
    | zero => cases e; exact ⟨fun a ha => (by cases ha), by simp⟩
    | succ k => cases e
  | succ m ih =>
    intro k ws l r hn e
    cases k with
    | zero => cases e; exact ⟨fun a ha => (by cases ha), by simp⟩
    | succ k =>
      unfold pP at e
      split at e
      · cases e
      · rename_i q hq
        obtain ⟨z, hz, ez⟩ := Option.map_eq_some_iff.mp e
        cases ez
        have h1 := (hs ws q.1 q.2 hq).len
        obtain ⟨i1, i2⟩ := ih k q.2 z.1 z.2 (by omega) hz
        refine ⟨fun a ha => ?_, by simp; omega⟩
        rcases List.mem_cons.mp ha with rfl | ha
        · exact hf ws _ _ hn hq
        · exact i1 a ha
/-- what is read is data of such a kind -/
theorem pS_al : ∀ (n : Nat) (ws : List Str) (a : Stm) (r : List Str), ws.length ≤ WL → pS n ws = some (a, r) → AlB (2 * n + 2) (toD a) := by
  intro n
  induction n with
  | zero => intro ws a r h e; cases e
  | succ n ih =>
    intro ws a r h e
    cases ws with
    | nil => cases e
    | cons w ws =>
      have hw : ws.length ≤ WL := by simp at h; omega
      have up2 : ∀ {x y : PyData}, AlB (2 * n + 3) x → AlB (2 * n + 3) y → AlB (2 * (n + 1) + 2) (.tuple [x, y]) := fun hx hy => by
        refine (alB_list (n := 2 * n + 3) (fun d hd => ?_) (by simp))
        rcases List.mem_cons.mp hd with rfl | hd
        · exact hx
        · rw [List.mem_singleton.mp hd]; exact hy
      have up3 : ∀ {x y z : PyData}, AlB (2 * n + 3) x → AlB (2 * n + 3) y → AlB (2 * n + 3) z → AlB (2 * (n + 1) + 2) (.tuple [x, y, z]) := fun hx hy hz => by
        refine (alB_list (n := 2 * n + 3) (fun d hd => ?_) (by simp))
        rcases List.mem_cons.mp hd with rfl | hd
        · exact hx
        rcases List.mem_cons.mp hd with rfl | hd
        · exact hy
        · rw [List.mem_singleton.mp hd]; exact hz
      have kd := kind w
      cases kd with
      | above =>
        rw [pS_above] at e
        obtain ⟨q, hq, eq⟩ := Option.map_eq_some_iff.mp e
        cases eq
        exact up2 (.str _) ((alB_sum (n := 0) (Nat.le_trans (pSum_len hq) hw)).up (by omega))
      | nought =>
        rw [pS_nought] at e
        obtain ⟨q, hq, eq⟩ := Option.map_eq_some_iff.mp e
        cases eq
        exact up2 (.str _) ((alB_sum (n := 0) (Nat.le_trans (pSum_len hq) hw)).up (by omega))
      | goes =>
        rw [pS_goes] at e
        cases ws with
        | nil => cases e
        | cons d r' =>
          cases hm : num d with
          | none => rw [pGo_num hm] at e; cases e
          | some m =>
            rw [pGo_some hm] at e
            split at e
            · obtain ⟨q, hq, eq⟩ := Option.map_eq_some_iff.mp e
              cases eq
              exact up3 (.str _) (.int _) ((alB_sum (n := 0) (Nat.le_trans (pSum_len hq) (by simp at hw; omega))).up (by omega))
            · cases e
      | not =>
        rw [pS_not] at e
        obtain ⟨q, hq, eq⟩ := Option.map_eq_some_iff.mp e
        cases eq
        exact up2 (.str _) ((ih ws q.1 q.2 hw hq).up (by omega))
      | bnd o =>
        rw [pS_bnd] at e
        cases ws with
        | nil => cases e
        | cons d r' =>
          cases hm : nameOk (cs d) with
          | false => rw [pBd_no hm] at e; cases e
          | true =>
            rw [pBd_yes hm] at e
            obtain ⟨q, hq, eq⟩ := Option.map_eq_some_iff.mp e
            cases eq
            exact up3 (.str _) (.str _) ((ih r' q.1 q.2 (by simp at hw; omega) hq).up (by omega))
      | con o =>
        rw [pS_con] at e
        cases ws with
        | nil => cases e
        | cons d r' =>
          cases hm : num d with
          | none => rw [pCon_num hm] at e; cases e
          | some k =>
            rw [pCon_some hm] at e
            split at e
            · obtain ⟨q, hq, eq⟩ := Option.map_eq_some_iff.mp e
              cases eq
              have hr : r'.length ≤ WL := by simp at hw; omega
              obtain ⟨i1, i2⟩ := pP_all (pS_suf n) (fun ws a r hl hs => ih ws a r hl hs) _ _ r' q.1 q.2 hr hq
              refine up2 (.str _) ?_
              rw [toDs_map]
              refine .tup (fun d hd => ?_) (by rw [List.length_map]; omega)
              obtain ⟨c, hc, rfl⟩ := List.mem_map.mp hd
              exact i1 c hc
            · cases e
      | «else» h1 h2 h3 h4 h5 h6 h7 h8 => rw [pS_else n h1 h2 h3 h4 h5 h6 h7 h8] at e; cases e
def sp_alikeB (n : Nat) (K : PySem.W.Frag) : Sp := fun vs H Q _ => ∃ (g e : V) (d : PyData) (k : Nat), vs = [g, e] ∧ n = k + 1 ∧ Dp K H g d ∧ Dp K H e d ∧ AlB k d ∧ Q (.bl true) H
end XY
namespace XY
open PySem PySem.Spec PyProof.Rows L2 XS
def sp_lread (K : PySem.W.Frag) : Sp := fun vs H Q _ => ∃ x : Str, vs = [.str x] ∧ x.length + 2 ≤ WL ∧ (∀ a, pS 40 (wof x) = some (a, []) → ∀ (t u : Addr) H', Same H H' → Dp K H' (.ref t) (toD a) → SqT K H' u [.str "statement", .ref t] → Q (.ref u) H') ∧
  ((∀ a, pS 40 (wof x) ≠ some (a, [])) → ∀ (u : Addr) H', Same H H' → SqT K H' u [.str "no note", .bl true] → Q (.ref u) H')
def sp_due (K : PySem.W.Frag) : Sp := fun vs H Q _ => ∃ x : Str, vs = [.str x] ∧ x.length + 2 ≤ 1000000 ∧ ∀ H', Same H H' → Q (.bl true) H'
end XY

namespace XY
open PySem PySem.Spec PyProof.Rows L2 XS
section
variable {K : PySem.W.Frag} {H : Hp} {Q : VK} {p q : Addr}
theorem x_upto {xs : List V} {k : Nat} (h : SqL K H p xs) (q1 : ∀ t H', H t = none → Same H H' → H' t = some (.lst (xs.take k)) → Q (.ref t) H') : rSlL K (.ref p) none (some (k : Int)) H Q :=
  ⟨p, xs, rfl, h, fun t ht => by rw [cut_take]; exact q1 t _ ht (same_upd ht) upd_same⟩
end
/-- the words that are put in -/
def othA : List Str := ["not", "and", "some", "x", "0", "1", "-1", "-0", "07", "+1", ";", "", "X"]
def sp_changed10 (K : PySem.W.Frag) : Sp := fun vs H Q _ => ∃ (p : Addr) (ws : List Str) (c : Int), vs = [.ref p, .int c] ∧ H p = some (.lst (ws.map V.str)) ∧ ws ≠ [] ∧ ws.length ≤ 100000 ∧ (∀ w ∈ ws, w.length ≤ 100) ∧ 0 ≤ c ∧
  ∀ (t : Addr) (ys : List Str) (H' : Hp), Same H H' → H' t = some (.lst (ys.map V.str)) → ys.length ≤ ws.length + 1 → (∀ y ∈ ys, y.length ≤ 100) → Q (.ref t) H'
theorem small_take {ws : List Str} {k n : Nat} (h : ∀ w ∈ ws, w.length ≤ n) : ∀ w ∈ ws.take k, w.length ≤ n := fun w hw => h w (List.mem_of_mem_take hw)
theorem small_drop {ws : List Str} {k n : Nat} (h : ∀ w ∈ ws, w.length ≤ n) : ∀ w ∈ ws.drop k, w.length ≤ n := fun w hw => h w (List.mem_of_mem_drop hw)
theorem small_app {ws us : List Str} {n : Nat} (h : ∀ w ∈ ws, w.length ≤ n) (k : ∀ w ∈ us, w.length ≤ n) : ∀ w ∈ ws ++ us, w.length ≤ n := fun w hw => by
  rcases List.mem_append.mp hw with hw | hw
  · exact h w hw
  · exact k w hw
end XY
namespace XY
open PySem PySem.Spec PyProof.Rows L2 XS
def othB (x61 : Str) : List Str := ["abcdefghi", "2x", x61, "-2", "-", "--1", "abcdefgh", "1-", "al", "so", "n", "gone"]
theorem oth_small {x61 : Str} (h : x61.length ≤ 100) : ∀ w ∈ othA ++ othB x61, w.length ≤ 100 := by
  refine small_app ?_ ?_
  · decide +kernel
  · intro w hw
    simp only [othB, List.mem_cons, List.not_mem_nil, or_false] at hw
    rcases hw with rfl | rfl | rfl | rfl | rfl | rfl | rfl | rfl | rfl | rfl | rfl | rfl
    all_goals first | exact h | decide +kernel
end XY
namespace XY
open PySem PySem.Spec PyProof.Rows L2 XS
theorem app_len (x y : Str) : (x ++ y).length = x.length + y.length := by
  show (x.cps ++ y.cps).size = _
  rw [Array.size_append]
  rfl
theorem upto_len (x : Str) (m : Nat) : (cutS x none (some (m : Int))).length = min m x.length := by
  rw [← cs_len, cs_upto, List.length_take, cs_len]
theorem from_len (x : Str) (m : Nat) : (cutS x (some (m : Int)) none).length = x.length - m := by
  rw [← cs_len, cs_from, List.length_drop, cs_len]
end XY

namespace XY
open PySem PySem.Spec PyProof.Rows L2 XS
/-- names drawn are names of the notes -/
theorem nameOk_word {l : List Nat} (h : Word l) : nameOk l = true := by
  unfold nameOk low
  simp only [Bool.and_eq_true, decide_eq_true_eq, List.all_eq_true]
  exact ⟨⟨h.1, h.2.1⟩, fun c hc => h.2.2 c hc⟩
/-- with ends that can be written all of it can -/
theorem Nt_ed {q : Stm → Prop} {a : Stm} (e : Ed q a) (h : ∀ b, isEnd b = true → q b → Nt b) : Nt a := by
  induction e with
  | fin e x => exact h _ e x
  | neg _ ih => exact .neg ih
  | con _ hl ih => exact .con ih (Nat.lt_of_le_of_lt hl (by decide))
theorem NSm_sumBy {c wd : Int} {names : List Str} (hw : 0 ≤ wd) (hw2 : wd ≤ 1000) (hn : ∀ x ∈ names, Word (cs x)) : NSm (sumBy c names wd) where
  n := Nat.lt_of_le_of_lt (sumBy_num c wd names) (by decide)
  no := sumBy_norm hw
  p := fun p hp => ⟨Nat.lt_of_le_of_lt (Nat.le_trans (sumBy_by hw hp) (show wd.toNat ≤ 1000 by omega)) (by decide), nameOk_word (hn _ (sumBy_mem hw hp))⟩
theorem Nt_endBy {c wd most : Int} {names : List Str} (hw : 0 ≤ wd) (hw2 : wd ≤ 1000) (hm : 0 < most) (hm2 : most < 10 ^ 60) (hn : ∀ x ∈ names, Word (cs x)) : Nt (endBy c names wd most) := by
  unfold endBy
  split
  · exact .nought (NSm_sumBy hw hw2 hn)
  split
  · have h1 := Int.emod_nonneg (c / 4) (Int.ne_of_gt hm)
    have h2 := Int.emod_lt_of_pos (c / 4) hm
    refine .goes (by omega) ?_ (NSm_sumBy hw hw2 hn)
    generalize c / 4 % most = k at h1 h2
    have hm3 : most.toNat < 10 ^ 60 := by
      have e : ((10 ^ 60 : Nat) : Int) = (10 : Int) ^ 60 := by decide
      omega
    exact Nat.lt_of_le_of_lt (show (1 + k).natAbs ≤ most.toNat by omega) hm3
  · exact .above (NSm_sumBy hw hw2 hn)
theorem Nt_plainBy {ns : List Int} {first count wd most : Int} {names : List Str} (hw : 0 ≤ wd) (hw2 : wd ≤ 1000) (hm : 0 < most) (hm2 : most < 10 ^ 60) (hn : ∀ x ∈ names, Word (cs x)) (hc : count ≤ 6) : Nt (plainBy ns first count names wd most) :=
  Nt_ed (plainBy_goodE (q := Nt) (fun c nm' hnm => Nt_endBy hw hw2 hm hm2 (fun x hx => by
    rcases hnm with rfl | rfl
    · exact hn _ hx
    · cases hx)) hc).ed (fun _ _ h => h)
end XY

namespace XY
open PySem PySem.Spec PyProof.Rows L2 XS
theorem wdss_rep (a : Stm) : ∀ k : Nat, (wdss (List.replicate k a)).length = k * (wds a).length
  | 0 => by rw [Nat.zero_mul]; rfl
  | k + 1 => by
    show (wds a ++ wdss (List.replicate k a)).length = _
    rw [List.length_append, wdss_rep a k, Nat.succ_mul, Nat.add_comm]
theorem wds_con (o : Bool) (l : List Stm) : (wds (.con o l)).length = (wdss l).length + 2 := by
  simp [wds]
theorem wds_neg (a : Stm) : (wds (.neg a)).length = (wds a).length + 1 := by
  simp [wds]
theorem wdss_cons (a : Stm) (l : List Stm) : (wdss (a :: l)).length = (wds a).length + (wdss l).length := by
  simp [wdss]
theorem wdss_nil : (wdss []).length = 0 := rfl
/-- a round of the drawing: the words -/
theorem wl_turn (way c : Int) (e a : Stm) : (wds (turnW way c e a)).length ≤ (wds a).length + 21 * (wds e).length + 12 := by
  unfold turnW
  iterate 8 (split; · simp only [wds_con, wds_neg, wdss_cons, wdss_nil]; omega)
  have h1 := Int.emod_lt_of_pos (c / 18) (by decide : (0 : Int) < 18)
  have hk : (1 + c / 18 % 18).toNat ≤ 18 := by omega
  generalize (1 + c / 18 % 18).toNat = k at hk
  rw [wds_con, wdss_app, List.length_append, wdss_rep]
  simp only [wdss_cons, wdss_nil]
  have := Nat.mul_le_mul_right (wds e).length hk
  omega
end XY

namespace XY
open PySem PySem.Spec PyProof.Rows L2 XS
theorem wSum_len (s : Sm) : (wSum s).length = 2 * s.2.length + 2 := by
  show (nS s.1 :: (wPs s.2 ++ [(";" : Str)])).length = _
  rw [List.length_cons, List.length_append, wPs_len]; rfl
theorem wl_endBy {c wd most : Int} {names : List Str} (hw : 0 ≤ wd) (hn : names.length ≤ 3) : (wds (endBy c names wd most)).length ≤ 10 := by
  have h := sumBy_len (c := c / 12) (names := names) hw
  unfold endBy
  split
  · show (("nought" : Str) :: wSum _).length ≤ 10
    rw [List.length_cons, wSum_len]; omega
  split
  · show (("goes" : Str) :: nS _ :: wSum _).length ≤ 10
    rw [List.length_cons, List.length_cons, wSum_len]; omega
  · show (("above" : Str) :: wSum _).length ≤ 10
    rw [List.length_cons, wSum_len]; omega
theorem wl_plainRun {ns : List Int} {first wd most : Int} {names : List Str} (hw : 0 ≤ wd) (hn : names.length ≤ 3) : ∀ i : Nat, (wds (plainRun ns first names wd most i)).length ≤ 10 + 222 * i
  | 0 => wl_endBy hw hn
  | i + 1 => by
    have ih := wl_plainRun (ns := ns) (first := first) (most := most) hw hn i
    show (wds (turnBy ns first names wd most (plainRun ns first names wd most i) i)).length ≤ _
    unfold turnBy
    refine Nat.le_trans (wl_turn ..) ?_
    have h := wl_endBy (c := (cell ns (first + (1 + i)) + 104729 * (1 + i)) / 9) (most := most) hw hn
    omega
theorem wl_plainBy {ns : List Int} {first count wd most : Int} {names : List Str} (hw : 0 ≤ wd) (hn : names.length ≤ 3) (hc : count ≤ 6) : (wds (plainBy ns first count names wd most)).length ≤ 1120 := by
  unfold plainBy
  split
  · exact (by decide : 2 ≤ 1120)
  · have h3 : (namesFor (cell ns first) names).length ≤ 3 := by
      unfold namesFor
      split
      · exact Nat.zero_le _
      · exact hn
    have := wl_plainRun (ns := ns) (first := first) (most := most) hw h3 (count - 1).toNat
    omega
end XY

namespace XY
open PySem PySem.Spec PyProof.Rows L2 XS
theorem word_at {names : List Str} (hn : ∀ x ∈ names, Word (cs x)) (h4 : names.length = 4) (c : Int) : nameOk (cs (names.getD (c % 4).toNat "")) = true := by
  have h1 := Int.emod_nonneg c (by decide : (4 : Int) ≠ 0)
  have h2 := Int.emod_lt_of_pos c (by decide : (0 : Int) < 4)
  have hl : (c % 4).toNat < names.length := by omega
  rw [List.getD_eq_getElem?_getD, List.getElem?_eq_getElem hl]
  exact nameOk_word (hn _ (List.getElem_mem hl))
theorem Nt_con1 {o : Bool} {a : Stm} (h : Nt a) : Nt (.con o [a]) := .con (fun b hb => by rw [List.mem_singleton.mp hb]; exact h) (show 1 < 10 ^ 60 by decide)
theorem Nt_con2 {o : Bool} {a b : Stm} (h : Nt a) (k : Nt b) : Nt (.con o [a, b]) := .con (fun c hc => by
  rcases List.mem_cons.mp hc with rfl | hc
  · exact h
  · rw [List.mem_singleton.mp hc]; exact k) (show 2 < 10 ^ 60 by decide)
theorem Nt_con0 {o : Bool} : Nt (.con o []) := .con (fun b hb => by cases hb) (by decide)
theorem wds_bnd (o : Bool) (x : Str) (a : Stm) : (wds (.bnd o x a)).length = (wds a).length + 2 := by
  simp [wds]
/-- the bound rounds -/
theorem bound_w {c : Int} {a : Stm} {names : List Str} (hn : ∀ x ∈ names, Word (cs x)) (h4 : names.length = 4) (h : Nt a) : Nt (boundBy c a names) ∧ (wds (boundBy c a names)).length ≤ 2 * (wds a).length + 9 ∧ dep (boundBy c a names) ≤ dep a + 4 := by
  have hb : Nt (Stm.bnd (decide (c % 2 = 1)) (names.getD (c / 2 % 4).toNat "") a) := .bnd (word_at hn h4 (c / 2)) h
  have wb := wds_bnd (decide (c % 2 = 1)) (names.getD (c / 2 % 4).toNat "") a
  have db : dep (Stm.bnd (decide (c % 2 = 1)) (names.getD (c / 2 % 4).toNat "") a) = dep a + 1 := rfl
  unfold boundBy
  dsimp only
  generalize Stm.bnd (decide (c % 2 = 1)) (names.getD (c / 2 % 4).toNat "") a = i at hb wb db
  split
  · exact ⟨hb, by omega, by omega⟩
  split
  · exact ⟨.neg hb, by rw [wds_neg]; omega, by show dep i + 1 ≤ _; omega⟩
  split
  · refine ⟨Nt_con2 h hb, by simp only [wds_con, wdss_cons, wdss_nil]; omega, ?_⟩
    show max (dep a) (max (dep i) 0) + 1 ≤ _
    omega
  · refine ⟨Nt_con2 Nt_con0 (.neg (Nt_con2 hb h)), by simp only [wds_con, wds_neg, wdss_cons, wdss_nil]; omega, ?_⟩
    show max (0 + 1) (max (max (dep i) (max (dep a) 0) + 1 + 1) 0) + 1 ≤ _
    omega
/-- the statement about a great number -/
def greatS (n k : Int) (x : Str) : Sm := (n, [(x, k)])
theorem great_w {n k : Int} {x : Str} {a : Stm} (h : Nt a) (hn : n.natAbs < 10 ^ 60) (hk : k.natAbs < 10 ^ 60) (k0 : k ≠ 0) (hx : Word (cs x)) :
    Nt (.con false [.nought (greatS n k x), a]) ∧ (wds (.con false [.nought (greatS n k x), a])).length = (wds a).length + 7 ∧ dep (Stm.con false [.nought (greatS n k x), a]) ≤ dep a + 1 := by
  have hs : NSm (greatS n k x) := ⟨hn, ⟨List.pairwise_singleton _ _, fun p hp => by rw [List.mem_singleton.mp hp]; exact k0⟩, fun p hp => by rw [List.mem_singleton.mp hp]; exact ⟨hk, nameOk_word hx⟩⟩
  have e : (wds (.nought (greatS n k x))).length = 5 := by
    show ((("nought" : Str)) :: wSum _).length = 5
    rw [List.length_cons, wSum_len]; rfl
  refine ⟨Nt_con2 (.nought hs) h, by simp only [wds_con, wdss_cons, wdss_nil, e]; omega, ?_⟩
  have := dep_pos a
  show max 1 (max (dep a) 0) + 1 ≤ _
  omega
/-- the wraps -/
def wrapBy (k far : Int) (names : List Str) (a : Stm) : Stm :=
  if far % 5 = 0 then .neg a else if far % 5 = 1 then .con true [a] else if far % 5 = 2 then .bnd (decide (k / 5 % 2 = 1)) (names.getD (far / 5 % 4).toNat "") a else if far % 5 = 3 then .con false [a] else .neg a
theorem wrap_w {k far : Int} {a : Stm} {names : List Str} (hn : ∀ x ∈ names, Word (cs x)) (h4 : names.length = 4) (h : Nt a) : Nt (wrapBy k far names a) ∧ (wds (wrapBy k far names a)).length ≤ (wds a).length + 2 ∧ dep (wrapBy k far names a) = dep a + 1 := by
  unfold wrapBy
  split
  · exact ⟨.neg h, by rw [wds_neg]; omega, rfl⟩
  split
  · exact ⟨Nt_con1 h, by simp only [wds_con, wdss_cons, wdss_nil]; omega, by show max (dep a) 0 + 1 = _; omega⟩
  split
  · exact ⟨.bnd (word_at hn h4 (far / 5)) h, by rw [wds_bnd]; omega, rfl⟩
  split
  · exact ⟨Nt_con1 h, by simp only [wds_con, wdss_cons, wdss_nil]; omega, by show max (dep a) 0 + 1 = _; omega⟩
  · exact ⟨.neg h, by rw [wds_neg]; omega, rfl⟩
end XY

namespace XY
open PySem PySem.Spec PyProof.Rows L2 XS
/-- what is drawn can be written, has few words, and is not deep -/
structure Dr (w d : Nat) (a : Stm) : Prop where
  nt : Nt a
  wl : (wds a).length ≤ w
  dp : dep a ≤ d
theorem Dr.mono {w w' d d' : Nat} {a : Stm} (g : Dr w d a) (h : w ≤ w') (k : d ≤ d') : Dr w' d' a := ⟨g.nt, Nat.le_trans g.wl h, Nat.le_trans g.dp k⟩
theorem dr_plain {ns : List Int} {first count wd most : Int} {names : List Str} (hw : 0 ≤ wd) (hw2 : wd ≤ 1000) (hm : 0 < most) (hm2 : most < 10 ^ 60) (hn : ∀ x ∈ names, Word (cs x)) (h8 : names.length ≤ 3) (hc : count ≤ 6) : Dr 1120 16 (plainBy ns first count names wd most) :=
  ⟨Nt_plainBy hw hw2 hm hm2 hn hc, wl_plainBy hw h8 hc, (plainBy_goodE (q := fun _ => True) (fun _ _ _ => trivial) hc).dp⟩
theorem dr_great {w d : Nat} {n k : Int} {x : Str} {a : Stm} (g : Dr w d a) (hn : n.natAbs < 10 ^ 60) (hk : k.natAbs < 10 ^ 60) (k0 : k ≠ 0) (hx : Word (cs x)) : Dr (w + 7) (d + 1) (.con false [.nought (greatS n k x), a]) := by
  obtain ⟨h1, h2, h3⟩ := great_w g.nt hn hk k0 hx
  have := g.wl
  have := g.dp
  exact ⟨h1, by omega, by omega⟩
/-- the bound rounds together -/
def boundRun (cAt : Nat → Int) (names : List Str) (a : Stm) : Nat → Stm
  | 0 => a
  | n + 1 => boundBy (cAt n) (boundRun cAt names a n) names
theorem dr_bound {w d : Nat} {c : Int} {a : Stm} {names : List Str} (hn : ∀ x ∈ names, Word (cs x)) (h4 : names.length = 4) (g : Dr w d a) : Dr (2 * w + 9) (d + 4) (boundBy c a names) := by
  obtain ⟨h1, h2, h3⟩ := bound_w (c := c) hn h4 g.nt
  have := g.wl
  have := g.dp
  exact ⟨h1, by omega, by omega⟩
theorem dr_bounds {cAt : Nat → Int} {a : Stm} {names : List Str} (hn : ∀ x ∈ names, Word (cs x)) (h4 : names.length = 4) (g : Dr 1127 17 a) : ∀ n : Nat, n ≤ 3 → Dr 9079 29 (boundRun cAt names a n)
  | 0, _ => g.mono (by decide) (by decide)
  | 1, _ => (dr_bound hn h4 g).mono (by decide) (by decide)
  | 2, _ => (dr_bound hn h4 (dr_bound hn h4 g)).mono (by decide) (by decide)
  | 3, _ => (dr_bound hn h4 (dr_bound hn h4 (dr_bound hn h4 g))).mono (by decide) (by decide)
  | n + 4, h => absurd h (by omega)
/-- the wraps together -/
def wrapRun (far : Int) (names : List Str) (a : Stm) : Nat → Stm
  | 0 => a
  | n + 1 => wrapBy n (far + n) names (wrapRun far names a n)
theorem wraps_w {far : Int} {a : Stm} {names : List Str} (hn : ∀ x ∈ names, Word (cs x)) (h4 : names.length = 4) (h : Nt a) : ∀ n : Nat, Nt (wrapRun far names a n) ∧ (wds (wrapRun far names a n)).length ≤ (wds a).length + 2 * n ∧ dep (wrapRun far names a n) = dep a + n
  | 0 => ⟨h, Nat.le_refl _, rfl⟩
  | n + 1 => by
    obtain ⟨h1, h2, h3⟩ := wraps_w (far := far) hn h4 h n
    obtain ⟨k1, k2, k3⟩ := wrap_w (k := n) (far := far + n) hn h4 h1
    refine ⟨k1, ?_, ?_⟩
    · show (wds (wrapBy n (far + n) names (wrapRun far names a n))).length ≤ _
      omega
    · show dep (wrapBy n (far + n) names (wrapRun far names a n)) = _
      omega
end XY

namespace XY
open PySem PySem.Spec PyProof.Rows L2 XS
theorem joinL_le (y : List Nat) (n : Nat) : ∀ ws : List (List Nat), (∀ w ∈ ws, w.length ≤ n) → (TL.joinL y ws).length ≤ ws.length * (n + y.length)
  | [], _ => Nat.zero_le _
  | [w], h => by
    have h1 := h w (List.mem_singleton.mpr rfl)
    have e : TL.joinL y [w] = w := by simp [TL.joinL]
    rw [e, List.length_singleton, Nat.one_mul]; omega
  | w :: v :: r, h => by
    have h1 := h w List.mem_cons_self
    have ih := joinL_le y n (v :: r) (fun x hx => h x (List.mem_cons_of_mem _ hx))
    have e : TL.joinL y (w :: v :: r) = w ++ y ++ TL.joinL y (v :: r) := by simp [TL.joinL]
    rw [e, List.length_append, List.length_append, List.length_cons, Nat.succ_mul]
    omega
theorem join_le {ws : List Str} {n : Nat} (h : ∀ w ∈ ws, w.length ≤ n) : (Txt.join " " ws).length ≤ ws.length * (n + 1) := by
  rw [TL.join_eq, TL.len_tl, TL.tl_join]
  have := joinL_le (TL.tl " ") n (ws.map TL.tl) (fun w hw => by
    obtain ⟨x, hx, rfl⟩ := List.mem_map.mp hw
    rw [← TL.len_tl]; exact h x hx)
  rw [List.length_map] at this
  exact this
end XY

namespace XY
open PySem PySem.Spec PyProof.Rows L2 XS
theorem dr_wraps {m far : Int} {a : Stm} {names : List Str} (hn : ∀ x ∈ names, Word (cs x)) (h4 : names.length = 4) (g : Dr 9079 29 a) (hm : m ≤ 41) : Dr 9161 41 (wrapRun far names a (m - dep a).toNat) := by
  obtain ⟨h1, h2, h3⟩ := wraps_w (far := far) hn h4 g.nt (m - dep a).toNat
  have := g.wl
  have := g.dp
  have := dep_pos a
  exact ⟨h1, by omega, by omega⟩
theorem note_len {a : Stm} (g : Dr 9161 41 a) : (Txt.join " " (wds a)).length ≤ 600000 := by
  have h := join_le (ws := wds a) (n := 61) (fun w hw => (wd_wds g.nt w hw).1)
  have := Nat.mul_le_mul_right (61 + 1) g.wl
  omega
theorem changed_len {a : Stm} {ys : List Str} (g : Dr 9161 41 a) (hl : ys.length ≤ (wds a).length + 1) (hw : ∀ y ∈ ys, y.length ≤ 100) : (Txt.join " " ys).length + 2 ≤ 1000000 := by
  have h := join_le (ws := ys) (n := 100) hw
  have h2 := g.wl
  have h3 := Nat.mul_le_mul_right (100 + 1) (show ys.length ≤ 9162 by omega)
  omega
/-- the note is read as its statement -/
theorem note_read {w d : Nat} {a : Stm} (g : Dr w d a) (h40 : dep a ≤ 40) : pS 40 (wof (Txt.join " " (wds a))) = some (a, []) := by
  rw [wof_join (wds_ne a) (wd_wds g.nt)]
  have := pS_w 40 a g.nt h40 []
  rwa [List.append_nil] at this
theorem wds_len100 {w d : Nat} {a : Stm} (g : Dr w d a) : ∀ x ∈ wds a, x.length ≤ 100 := fun x hx => Nat.le_trans (wd_wds g.nt x hx).1 (by decide)
end XY

local macro_rules | `(tactic| walk_at "go1") => `(tactic| first
  | ((with_reducible apply XS.g_var); (with_reducible refine' XS.x_var ?e ?_); (case e => exact rfl))
  | with_reducible apply XS.x_c
  | with_reducible apply XS.x_op
  | with_reducible apply XS.x_I0
  | with_reducible apply XS.x_gname
  | with_reducible apply XS.x_sAsg
  | with_reducible apply XS.x_cons
  | with_reducible apply XS.x_nil
  | with_reducible apply XS.x_k
  | with_reducible apply XS.x_k2
  | with_reducible apply XS.x_ki
  | with_reducible apply XS.x_eqI
  | with_reducible apply XS.x_neI
  | with_reducible apply XS.x_eqS
  | with_reducible apply XS.x_neS
  | with_reducible apply XS.x_test
  | with_reducible apply XS.x_B
  | with_reducible apply XS.x_sIf
  | with_reducible apply XS.x_ret
  | with_reducible apply XS.x_call
  | with_reducible apply XS.x_cb
  | with_reducible apply XS.x_tup
  | with_reducible apply XS.x_lst
  | with_reducible apply XS.x_T
  | with_reducible apply XS.x_F
  | with_reducible apply XS.x_Tn
  | with_reducible apply XS.x_Fn
  | ((with_reducible apply XS.g_I); (with_reducible refine XS.x_I ?c ?_); (case c => first | decide | exact ⟨by decide, by decide⟩ | exact .inr ⟨by decide, by decide⟩ | exact .inl ⟨by decide, by decide⟩))
  | with_reducible apply XS.x_next
  | with_reducible apply XS.x_sNext
  | with_reducible apply XS.x_par
  | with_reducible apply XS.x_sPar
  | with_reducible apply XS.x_cont
  | with_reducible apply XS.x_sDrop
  | with_reducible apply XS.x_sSeq
  | with_reducible apply XS.x_asg
  | with_reducible apply XS.x_if
  | with_reducible apply XS.x_drop
  | with_reducible apply XS.x_and
  | with_reducible apply XS.x_or
  | with_reducible apply XS.x_not
  | with_reducible apply XS.x_andV
  | with_reducible apply XS.x_orV
  | with_reducible apply XS.x_notV
  | with_reducible apply XS.x_ifE
  | with_reducible apply XS.x_un
  | with_reducible apply XS.x_U
  | with_reducible apply XS.x_sl
  | with_reducible apply XS.x_part
  | with_reducible apply XS.x_nopart
  | with_reducible apply XS.x_bm
  | with_reducible apply XS.x_bm0
  | with_reducible apply XS.x_sFor
  | with_reducible apply XS.x_for
  | with_reducible apply XS.x_iL
  | with_reducible apply XS.x_iT
  | with_reducible apply XY.x_iS
  | with_reducible apply XY.x_orT
  | with_reducible apply XY.x_ckw
  | with_reducible apply XY.x_joinRev
  | with_reducible apply XS.x_iR1
  | with_reducible apply XS.x_iR2
  | with_reducible apply XS.x_gcons
  | with_reducible apply XS.x_gnil
  | with_reducible apply XS.x_lc
  | with_reducible apply XS.x_callS
  | with_reducible apply XS.x_callP
  | with_reducible apply XS.x_M1
  | with_reducible apply XS.x_star
  | with_reducible apply XS.x_tyes
  | with_reducible apply XS.x_dput
  | with_reducible apply XS.x_sdput
  | with_reducible apply XS.x_dget2
  | with_reducible apply XS.x_dget
  | with_reducible apply XS.x_dnew
  | with_reducible apply XS.x_din
  | with_reducible apply XS.x_dnotin
  | with_reducible apply XS.x_dpop1
  | with_reducible refine XS.x_nx ?_
  | with_reducible refine XS.x_rt ?_
  | with_reducible refine XS.x_bk ?_
  | with_reducible refine XS.x_ct ?_
  | with_reducible apply XS.x_sAny)
local macro_rules | `(tactic| walk_at "go") => `(tactic| repeat walk_at "go1")
local macro_rules | `(tactic| walk_at "all") => `(tactic| repeat (first | walk_at "go1" | (refine XS.x_no (by decide) ?_) | (refine XS.x_yes (by decide) ?_)))
namespace R1
open PySem PySem.Spec PyProof.Rows L2 XS XY
def topS (i : Nat) : Stmt := PySem.Challenge.pw_somenumber_k10_notes.main.body.getD i (.Pass ⟨0, 0, 0, 0⟩)
section
variable {P : Program} {w : World} {K : PySem.W.Frag} {mg : Str → Option Value} {base : Heap}

abbrev Rr : PySem.W.OpenRow := PySem.W.OpenLaw.row PySem.Challenge.rw_somenumber_k10_notes
def fn0 : List He.DefD := [XH.dD "written" "written" (topS 15), XH.dD "read" "read" (topS 16), XH.dD "_write" "_write" (topS 17), XH.dD "_write_sum" "_write_sum" (topS 18), XH.dD "_figures" "_figures" (topS 19), XH.dD "_read_statement" "_read_statement" (topS 20), XH.dD "_read_parts" "_read_parts" (topS 21), XH.dD "_read_sum" "_read_sum" (topS 22), XH.dD "_word" "_word" (topS 23), XH.dD "_number" "_number" (topS 24), XH.dD "_name" "_name" (topS 25), XH.dD "_law_cell_at" "_law_cell_at" (topS 27), XH.dD "_law_whole" "_law_whole" (topS 28), XH.dD "_law_names_by" "_law_names_by" (topS 29), XH.dD "_law_sum_by" "_law_sum_by" (topS 30), XH.dD "_law_end_by" "_law_end_by" (topS 31), XH.dD "_law_plain_by" "_law_plain_by" (topS 32), XH.dD "_law_word_of" "_law_word_of" (topS 33), XH.dD "_law_big_by" "_law_big_by" (topS 34), XH.dD "_law_alike" "_law_alike" (topS 35), XH.dD "_law_bound_by" "_law_bound_by" (topS 36), XH.dD "_law_sum_words" "_law_sum_words" (topS 37), XH.dD "_law_words" "_law_words" (topS 38), XH.dD "_law_within" "_law_within" (topS 39), XH.dD "_law_number" "_law_number" (topS 40), XH.dD "_law_is_name" "_law_is_name" (topS 41), XH.dD "_law_sum_along" "_law_sum_along" (topS 42), XH.dD "_law_parts_along" "_law_parts_along" (topS 43), XH.dD "_law_along" "_law_along" (topS 44), XH.dD "_law_changed" "_law_changed" (topS 45)]
def fn1 : List He.DefD := [XH.dD "_law_read" "_law_read" (topS 46), XH.dD "_law_is_due" "_law_is_due" (topS 47), XH.dD "law" "law" (topS 48)]
def fnL : List He.DefD := fn0 ++ fn1
def fa0 : List He.Fa := [.glo "written", .glo "read", .glo "_write", .glo "_write_sum", .glo "_figures", .glo "_read_statement", .glo "_read_parts", .glo "_read_sum", .glo "_word", .glo "_number", .glo "_name", .glo "_law_cell_at", .glo "_law_whole", .glo "_law_names_by", .glo "_law_sum_by", .glo "_law_end_by", .glo "_law_plain_by", .glo "_law_word_of", .glo "_law_big_by", .glo "_law_alike", .glo "_law_bound_by", .glo "_law_sum_words", .glo "_law_words", .glo "_law_within", .glo "_law_number", .glo "_law_is_name", .glo "_law_sum_along", .glo "_law_parts_along", .glo "_law_along", .glo "_law_changed"]
def fa1 : List He.Fa := [.glo "_law_read", .glo "_law_is_due", .glo "law"]
def faL : List He.Fa := fa0 ++ fa1
def tsL : List He.Tab := []
def exB (K : PySem.W.Frag) : Bool := XH.allB [XH.freeB K XH.blL, XH.freeB K XH.bl2L, XH.allB (XH.errL K), XH.allB (XH.conL K), (He.Fa.int "MOST_WITHIN" 40).ok K, (He.Fa.int "MOST_FIGURES" 60).ok K, (He.Fa.int "MOST_LETTERS" 8).ok K, (He.Fa.int "PIECE" 60).ok K, (He.Fa.int "PIECE_END" (10 ^ 60)).ok K, XH.freeB K ["divmod", "reversed"], (He.Fa.str "FIGURES" "0123456789").ok K, (He.Fa.str "LETTERS" "abcdefghijklmnopqrstuvwxyz").ok K]
def xs0 : List Str := ["written", "read", "_write", "_write_sum", "_figures", "_read_statement", "_read_parts", "_read_sum", "_word", "_number", "_name", "_law_cell_at", "_law_whole", "_law_names_by", "_law_sum_by", "_law_end_by", "_law_plain_by", "_law_word_of", "_law_big_by", "_law_alike", "_law_bound_by", "_law_sum_words", "_law_words", "_law_within", "_law_number", "_law_is_name", "_law_sum_along", "_law_parts_along", "_law_along", "_law_changed"]
def xs1 : List Str := ["_law_read", "_law_is_due", "law", "SomeError", "NoValue", "NotPlain", "NoNote", "OVER_SUMS", "BINDING"]
def xsL : List Str := xs0 ++ xs1
def lo0 : List Str := ["__name__", "SomeError", "NoValue", "NotPlain", "NoNote", "OVER_SUMS", "BINDING", "MOST_WITHIN", "MOST_FIGURES", "MOST_LETTERS", "FIGURES", "LETTERS", "PIECE", "PIECE_END", "written", "read", "_write", "_write_sum", "_figures", "_read_statement", "_read_parts", "_read_sum", "_word", "_number", "_name", "_law_cell_at", "_law_whole", "_law_names_by", "_law_sum_by", "_law_end_by"]
def lo1 : List Str := ["_law_plain_by", "_law_word_of", "_law_big_by", "_law_alike", "_law_bound_by", "_law_sum_words", "_law_words", "_law_within", "_law_number", "_law_is_name", "_law_sum_along", "_law_parts_along", "_law_along", "_law_changed", "_law_read", "_law_is_due"]
def loL : List Str := lo0 ++ lo1
abbrev hk : PySem.W.Hook := XH.hookZ xsL faL fnL tsL exB
def ob (s : PySem.W.SharedT) : XH.AlZ := XH.obsZ xsL faL fnL tsL exB (HandSHeadRun.getT s)
theorem ob_eq (s : PySem.W.SharedT) : ob s = hk.obs s.abs := XH.obsZ_eq (HandSHeadRun.getT_eq s)
def partL (w : World) : Prop := ∀ os : OsState, (HandSHeadRun.endF (HandSHeadRun.stepQ (HandSHeadRun.denQ HandSHeadRun.tabQ) Rr.prog w) 6000 Rr.prog w os).map (fun s => HandSHeadRun.looksF Rr.prog (PySem.W.boot_heap w.params) s.abs) = some true
def partS (w : World) : Prop := ∀ os : OsState, (HandSHeadRun.endF (HandSHeadRun.stepQ (HandSHeadRun.denQ HandSHeadRun.tabQ) Rr.prog w) 6000 Rr.prog w os).map (fun s => HandSHeadRun.seenQ (PySem.W.view Rr.prog [48]) loL (PySem.importedModules Rr.prog.main.body) (fun s => PySem.W.xlAt (PySem.W.view Rr.prog [48]) [] s && PySem.W.recOk Rr.toRowW.records s) s.abs) = some (PySem.W.openGood (PySem.W.view Rr.prog [48]) loL)
def partO (w : World) : Prop := ∀ os : OsState, (HandSHeadRun.endF (HandSHeadRun.stepQ (HandSHeadRun.denQ HandSHeadRun.tabQ) Rr.prog w) 6000 Rr.prog w os).map (fun s => ob s) = some (hk.val w)
set_option maxHeartbeats 0
theorem runL0 (w : World) : partL (w.withFollow "special-get-raises" false) := by unfold partL; intro os; kernel_rfl
theorem runL1 (w : World) : partL (w.withFollow "special-get-raises" true) := by unfold partL; intro os; kernel_rfl
theorem runS0 (w : World) : partS (w.withFollow "special-get-raises" false) := by unfold partS; intro os; kernel_rfl
theorem runS1 (w : World) : partS (w.withFollow "special-get-raises" true) := by unfold partS; intro os; kernel_rfl
theorem runO0 (w : World) : partO (w.withFollow "special-get-raises" false) := by unfold partO; intro os; kernel_rfl
theorem runO1 (w : World) : partO (w.withFollow "special-get-raises" true) := by unfold partO; intro os; kernel_rfl
theorem runF (w : World) : HandSHeadRun.RunEq Rr (PySem.W.view Rr.prog [48]) hk ob 6000 loL w :=
  fun os => XH.map3 (PySem.W.byRow2 "special-get-raises" (P := partL) runL0 runL1 w os) (PySem.W.byRow2 "special-get-raises" (P := partS) runS0 runS1 w os) (PySem.W.byRow2 "special-get-raises" (P := partO) runO0 runO1 w os)
set_option maxHeartbeats 4000000

abbrev s__law_cell_at : Stmt := topS 27
abbrev N__law_cell_at : List Str := ["_law_script", "_law_k"]
abbrev P__law_cell_at : List Str := ["_law_script", "_law_k"]
theorem sc__law_cell_at : FnScope N__law_cell_at P__law_cell_at (defScope s__law_cell_at) := ⟨rfl, rfl, rfl, by decide +kernel, rfl, by decide +kernel, by decide +kernel⟩
theorem d__law_cell_at (F : FunAt K mg "_law_cell_at" s__law_cell_at P__law_cell_at) (Z : Bl mg) : DefAt P w K mg base CX0 1 "_law_cell_at" P__law_cell_at (sp_cell_at K) := by
  refine F.ok sc__law_cell_at (fun vs H Q E h => ?_) (fun f cdv A outer s H vs Q E hr h => ?_)
  · obtain ⟨a, ns, k, rfl, _⟩ := h
    rfl
  obtain ⟨a, ns, k, rfl, h0, hS, q⟩ := h
  refine ⟨_, (pss_cons (ps_if (pt_cmpR op_lt (pv 1) (pe_callB (call_lenK K) (by rfl) Z.len PySem.boot_len (pa_cons (pv 0) pa_nil)) (nomark _))
          (pss_one (ps_ret (pe_ix (ix_listK K) (pv 0) (pv 1) (fun _ _ => rfl)))) pss_nil)
        (pss_one (ps_ret pe_int))), ?_⟩
  walk_at "go"
  refine XS.x_lenL hS ?_
  walk_at "go"
  rw [List.length_map]
  refine XS.x_d (fun c => ?_) (fun c => ?_)
  · walk_at "go"
    refine XS.x_ixL hS (XS.atI_map h0 c) ?_
    unfold cell at q
    rw [if_pos c] at q
    exact q
  · walk_at "go"
    unfold cell at q
    rw [if_neg c] at q
    exact q

abbrev s__law_whole : Stmt := topS 28
abbrev N__law_whole : List Str := ["_law_got"]
abbrev P__law_whole : List Str := ["_law_got"]
theorem sc__law_whole : FnScope N__law_whole P__law_whole (defScope s__law_whole) := ⟨rfl, rfl, rfl, by decide +kernel, rfl, by decide +kernel, by decide +kernel⟩
theorem d__law_whole (F : FunAt K mg "_law_whole" s__law_whole P__law_whole) (Z : Bl mg) : DefAt P w K mg base CX0 1 "_law_whole" P__law_whole sp_whole := by
  refine F.ok sc__law_whole (fun vs H Q E h => ?_) (fun f cdv A outer s H vs Q E hr h => ?_)
  · obtain ⟨i, rfl, _⟩ := h
    rfl
  obtain ⟨i, rfl, q⟩ := h
  refine ⟨_, (pss_one (ps_ret (pe_and (pe_callB (call_isiK K) (by rfl) Z.isinstance (by decide +kernel) (pa_cons (pv 0) (pa_cons (pe_bltn (v := .ty "int") rfl Z.int (by decide +kernel) rfl) pa_nil))) (pe_one (pe_not (pe_callB (call_isiK K) (by rfl) Z.isinstance (by decide +kernel) (pa_cons (pv 0) (pa_cons (pe_bltn (v := .ty "bool") rfl Z.bool (by decide +kernel) rfl) pa_nil)))))))), ?_⟩
  walk_at "go"
  refine XS.x_isi (.base (.int i)) XS.k_int_int ?_
  walk_at "go"
  refine XS.x_isi (.base (.int i)) XS.k_int_bool ?_
  walk_at "go"
  exact q

abbrev s__law_names_by : Stmt := topS 29
abbrev N__law_names_by : List Str := ["_law_cell", "_law_letters", "_law_size", "_law_word", "_law_number_here", "_law_k", "_law_spot", "_law_usual"]
abbrev P__law_names_by : List Str := ["_law_cell"]
theorem sc__law_names_by : FnScope N__law_names_by P__law_names_by (defScope s__law_names_by) := ⟨rfl, rfl, rfl, by decide +kernel, rfl, by decide +kernel, by decide +kernel⟩
theorem d__law_names_by (F : FunAt K mg "_law_names_by" s__law_names_by P__law_names_by) (Z : Bl mg) : DefAt P w K mg base CX0 1 "_law_names_by" P__law_names_by sp_names_by := by
  refine F.ok sc__law_names_by (fun vs H Q E h => ?_) (fun f cdv A outer s H vs Q E hr h => ?_)
  · obtain ⟨_, rfl, _⟩ := h
    rfl
  obtain ⟨c, rfl, q⟩ := h
  have hz := sizeBy_b c
  have hs := spotBy_b c
  have hl := wordBy_len c
  have hw := wordBy_ok c
  have end_ : ∀ (H2 : Hp), Same H H2 → ∀ Dl H' acc, H2 Dl = none → Same H2 H' → H' Dl = some (.lst acc) → DpAll K H' acc (((List.range (4 : Int).toNat).filter (fun _ => true)).map fun k => PyData.str (nameBy c k)) → Q (.ref Dl) H' := fun H2 e2 Dl H' acc h0 e h1 had => by
    have e3 : (((List.range (4 : Int).toNat).filter (fun _ => true)).map fun k => PyData.str (nameBy c k)) = (namesBy c).map PyData.str := rfl
    rw [e3] at had
    rw [had.strs] at h1
    exact q Dl H' (e2.free h0) (e2.trans e) h1
  refine ⟨_, (pss_cons (ps_set (i := 1) sc__law_names_by.nd rfl (Or.inr rfl) pe_str)
        (pss_cons (ps_set (i := 2) sc__law_names_by.nd rfl (Or.inl rfl) (pe_op op_add pe_int (pe_op op_mod (pv 0) pe_int)))
        (pss_cons (ps_set (i := 3) sc__law_names_by.nd rfl (Or.inr rfl) pe_str)
        (pss_cons (ps_set (i := 4) sc__law_names_by.nd rfl (Or.inl rfl) (pv 0))
        (pss_cons (ps_for PassesOwn.never rfl (pi_range1 rfl Z.range (pa_cons (pv 2) pa_nil)) (pg_name (i := 5) sc__law_names_by.nd rfl (Or.inl rfl))
          (pss_cons (ps_set (i := 4) sc__law_names_by.nd rfl (Or.inl rfl) (pe_op op_mod (pe_op op_add (pe_op op_mul (pv 4) pe_int) pe_int) pe_int))
        (pss_one (ps_set (i := 3) sc__law_names_by.nd rfl (Or.inr rfl) (pe_op op_add_str (pv 3) (pe_ix ix_str (pv 1) (pe_op op_mod (pe_op op_fdiv (pv 4) pe_int) pe_int) (fun _ _ => rfl)))))))
        (pss_cons (ps_if (pt_cmpR op_eq (pe_op op_mod (pe_op op_fdiv (pv 0) pe_int) pe_int) pe_int (nomark _))
          (pss_one (ps_ret (pe_lc (own := [("_law_k", 5)]) (by rfl) sc__law_names_by.nd (pi_range1 rfl Z.range (pa_cons pe_int pa_nil)) (blkOk_by (own := [("_law_k", 5)]) (N := N__law_names_by) (sc := defScope s__law_names_by) (by decide +kernel)) (fun _ _ _ _ _ => (pg_name (i := 5) sc__law_names_by.nd rfl (Or.inl rfl))) (fun _ _ _ _ _ => pts_nil) (fun _ _ _ _ _ => (pe_op op_repS (pe_slice sl_str (pv 3) po_none (po_some pe_int)) (pe_op op_add pe_int (pe_op op_mod (pe_op op_add (pv 5) (pe_op op_fdiv (pv 0) pe_int)) pe_int))))))) pss_nil)
        (pss_cons (ps_if (pt_cmpR (op_inK K) (pe_op op_mod (pe_op op_fdiv (pv 0) pe_int) pe_int) (pe_lst (pa_cons pe_int (pa_cons pe_int (pa_cons pe_int pa_nil)))) (by rfl))
          (pss_cons (ps_set (i := 7) sc__law_names_by.nd rfl (Or.inr rfl) (pe_lst (pa_cons pe_str (pa_cons pe_str (pa_cons pe_str (pa_cons pe_str (pa_cons pe_str (pa_cons pe_str (pa_cons pe_str (pa_cons pe_str (pa_cons pe_str (pa_cons pe_str (pa_cons pe_str (pa_cons pe_str (pa_cons pe_str (pa_cons pe_str pa_nil))))))))))))))))
        (pss_cons (ps_set (i := 7) sc__law_names_by.nd rfl (Or.inr rfl) (pe_op op_cat (pv 7) (pe_lst (pa_cons pe_str (pa_cons pe_str (pa_cons pe_str (pa_cons pe_str (pa_cons pe_str (pa_cons pe_str (pa_cons pe_str (pa_cons pe_str (pa_cons pe_str (pa_cons pe_str (pa_cons pe_str pa_nil))))))))))))))
        (pss_one (ps_ret (pe_lc (own := [("_law_k", 5)]) (by rfl) sc__law_names_by.nd (pi_range1 rfl Z.range (pa_cons pe_int pa_nil)) (blkOk_by (own := [("_law_k", 5)]) (N := N__law_names_by) (sc := defScope s__law_names_by) (by decide +kernel)) (fun _ _ _ _ _ => (pg_name (i := 5) sc__law_names_by.nd rfl (Or.inl rfl))) (fun _ _ _ _ _ => pts_nil) (fun _ _ _ _ _ => (pe_ix (ix_listK K) (pv 7) (pe_op op_mod (pe_op op_add (pe_op op_fdiv (pv 0) pe_int) (pe_ix (ix_listK K) (pe_lst (pa_cons pe_int (pa_cons pe_int (pa_cons pe_int (pa_cons pe_int pa_nil))))) (pv 5) (fun _ _ => rfl))) pe_int) (fun _ _ => rfl)))))))) pss_nil)
        (pss_cons (ps_set (i := 6) sc__law_names_by.nd rfl (Or.inr rfl) (pe_op op_modN (pe_op op_fdiv (pv 0) pe_int) (pv 2)))
        (pss_one (ps_ret (pe_lc (own := [("_law_k", 5)]) (by rfl) sc__law_names_by.nd (pi_range1 rfl Z.range (pa_cons pe_int pa_nil)) (blkOk_by (own := [("_law_k", 5)]) (N := N__law_names_by) (sc := defScope s__law_names_by) (by decide +kernel)) (fun _ _ _ _ _ => (pg_name (i := 5) sc__law_names_by.nd rfl (Or.inl rfl))) (fun _ _ _ _ _ => pts_nil) (fun _ _ _ _ _ => (pe_op op_add_str (pe_op op_add_str (pe_slice sl_str (pv 3) po_none (po_some (pv 6))) (pe_ix ix_str (pv 1) (pe_op op_mod (pe_op op_add (pe_op op_fdiv (pv 0) pe_int) (pe_op op_mul pe_int (pv 5))) pe_int) (fun _ _ => rfl))) (pe_slice sl_str (pv 3) (po_some (pe_op op_add (pv 6) pe_int)) po_none)))))))))))))), ?_⟩
  walk_at "go"
  refine XS.x_forR1 (by omega) (fun i σ H' => ∃ y5 : Option V, σ = [some (.int c), some (.str abc), some (.int (1 + c % 8)), some (.str (tx (wordRun c i).1)), some (.int (wordRun c i).2), y5, none, none] ∧ H' = H) ⟨none, rfl, rfl⟩ ?_ ?_
  · rintro i σ H' hi ⟨y5, rfl, rfl⟩
    walk_at "go"
    refine XS.x_ixS (by rw [abc_len]; exact XS.sz (by decide)) (abc_at _) ?_
    walk_at "go"
    refine ⟨_, _, rfl, rfl, ?_, ?_⟩
    · show (tx _).length + 1 ≤ sizeLine
      rw [tx_len, wordRun_len]
      exact XS.sz (by omega)
    · walk_at "go"
      refine ⟨some (.int i), ?_, rfl⟩
      show [_, _, _, some (V.str (tx (wordRun c i).1 ++ tx [lc (mixN (wordRun c i).2 / 7)])), _, _, _, _] = _
      rw [tx_app]
      rfl
  · rintro σ H' ⟨y5, rfl, rfl⟩
    have e0 : (wordRun c (1 + c % 8).toNat).1 = wordBy c := rfl
    rw [e0]
    have hsz : (tx (wordBy c)).length ≤ sizeLine := by rw [tx_len]; exact XS.sz (by omega)
    walk_at "go"
    refine XS.x_d (fun h1 => ?_) (fun h1 => ?_)
    · walk_at "go"
      refine XS.x_lcR1 (fun _ => true) (fun k => PyData.str (nameBy c k)) ⟨by decide, by decide⟩ (fun _ => .str _) (fun z hz H' Yes No e yes no => ?_) (end_ _ (Same.refl _))
      walk_at "go"
      refine ⟨rfl, ?_⟩
      walk_at "go"
      refine ⟨_, rfl, hsz, ?_⟩
      walk_at "go"
      have h2 : 0 ≤ (z + c / 24) % 8 := Int.emod_nonneg _ (by decide)
      have h3 : (z + c / 24) % 8 < 8 := Int.emod_lt_of_pos _ (by decide)
      refine ⟨_, _, rfl, rfl, by omega, by omega, Nat.le_trans (cutS_length _ _ _) (by rw [tx_len]; omega), ?_⟩
      have e1 : repS (cutS (tx (wordBy c)) none (some 1)) (1 + (z + c / 24) % 8).toNat = nameBy c z := by
        unfold nameBy
        rw [if_pos h1]
        have := tx_cut0 (wordBy c) 1
        rw [show ((1 : Nat) : Int) = 1 from rfl] at this
        rw [this, tx_rep]
      refine yes _ _ (Same.refl _) rfl ?_
      rw [e1]
      exact .str _
    · walk_at "go"
      refine ⟨XS.sz (by simp), fun p1 hp1 => ?_⟩
      obtain ⟨e1, h3⟩ := XS.newly (o := HO.lst _) hp1
      generalize hH1 : upd _ p1 _ = H1 at e1 h3 ⊢
      walk_at "go"
      refine ⟨p1, _, rfl, .inl (SqL.of h3), rfl, rfl, ?_⟩
      walk_at "go"
      have hin : (if false = true then !inV (V.int (c / 8 % 9)) [V.int 1, V.int 4, V.int 7] else inV (V.int (c / 8 % 9)) [V.int 1, V.int 4, V.int 7]) = decide (c / 8 % 9 = 1 ∨ c / 8 % 9 = 4 ∨ c / 8 % 9 = 7) := by
        rw [if_neg Bool.false_ne_true, Bool.eq_iff_iff]
        simp [inV, eqV]
        omega
      rw [hin]
      refine XS.x_d (fun h2 => ?_) (fun h2 => ?_)
      · walk_at "go"
        refine ⟨XS.sz (by simp), fun p2 hp2 => ?_⟩
        obtain ⟨e2, h4⟩ := XS.newly (o := HO.lst _) hp2
        generalize hH2 : upd _ p2 _ = H2 at e2 h4 ⊢
        walk_at "go"
        refine ⟨XS.sz (by simp), fun p3 hp3 => ?_⟩
        obtain ⟨e3, h5⟩ := XS.newly (o := HO.lst _) hp3
        generalize hH3 : upd _ p3 _ = H3 at e3 h5 ⊢
        walk_at "go"
        refine ⟨p2, p3, _, _, rfl, rfl, e3 _ _ h4, h5, XS.sz (by show 14 + 11 ≤ 100000; decide), fun p4 hp4 => ?_⟩
        have e4 := XS.same_upd (o := .lst (usual.map V.str)) hp4
        walk_at "go"
        refine XS.x_lcR1 (fun _ => true) (fun k => PyData.str (nameBy c k)) ⟨by decide, by decide⟩ (fun _ => .str _) (fun z hz H' Yes No e yes no => ?_) (end_ _ (((e1.trans e2).trans e3).trans e4))
        walk_at "go"
        refine ⟨rfl, ?_⟩
        walk_at "go"
        refine ⟨XS.sz (by simp), fun p5 hp5 => ?_⟩
        obtain ⟨e5, h7⟩ := XS.newly (o := HO.lst _) hp5
        generalize hH5 : upd _ p5 _ = H5 at e5 h7 ⊢
        walk_at "go"
        have hoff : atI [V.int 0, V.int 7, V.int 12, V.int 18] (z : Int) = some (.int (offs z)) := by
          have hz' : z = 0 ∨ z = 1 ∨ z = 2 ∨ z = 3 := by omega
          rcases hz' with rfl | rfl | rfl | rfl <;> exact atI_nat rfl
        refine XS.x_ixL (SqL.of h7) hoff ?_
        walk_at "go"
        have hu := usualAt c z
        have h8 : 0 ≤ (c / 72 + offs z) % 25 := Int.emod_nonneg _ (by decide)
        obtain ⟨j, hj⟩ := Int.eq_ofNat_of_zero_le h8
        have hus : atI (usual.map V.str) ((c / 72 + offs z) % 25) = some (.str (nameBy c z)) := by
          unfold nameBy
          rw [if_neg h1, if_pos h2, hj]
          rw [hj] at hu
          refine atI_nat ?_
          have hu' : j < usual.length := hu
          rw [List.getElem?_map, List.getD_eq_getElem?_getD]
          show (usual[j]?).map V.str = some (.str ((usual[j]?).getD ""))
          rw [List.getElem?_eq_getElem hu']
          rfl
        refine XS.x_ixL (SqL.of (e5 _ _ (e _ _ upd_same))) hus ?_
        exact yes _ _ e5 rfl (.str _)
      · walk_at "go"
        have hmod : (c / 24).fmod (1 + c % 8) = spotBy c := by rw [Int.fmod_eq_emod_of_nonneg _ (by omega)]; exact hs.2.symm
        refine XS.x_I (by omega) ?_
        rw [hmod]
        walk_at "go"
        refine XS.x_lcR1 (fun _ => true) (fun k => PyData.str (nameBy c k)) ⟨by decide, by decide⟩ (fun _ => .str _) (fun z hz H' Yes No e yes no => ?_) (end_ _ e1)
        walk_at "go"
        refine ⟨rfl, ?_⟩
        walk_at "go"
        refine ⟨_, rfl, hsz, ?_⟩
        rw [tx_cut0]
        walk_at "go"
        refine XS.x_ixS (by rw [abc_len]; exact XS.sz (by decide)) (abc_at _) ?_
        walk_at "go"
        have hcut : ((wordBy c).take (spotBy c)).length ≤ 8 := by rw [List.length_take]; omega
        refine ⟨_, _, rfl, rfl, ?_, ?_⟩
        · show (tx _).length + 1 ≤ sizeLine
          rw [tx_len]
          exact XS.sz (by omega)
        walk_at "go"
        refine ⟨_, rfl, hsz, ?_⟩
        have e7 : (spotBy c : Int) + 1 = ((spotBy c + 1 : Nat) : Int) := rfl
        rw [e7, tx_cut1]
        walk_at "go"
        have e9 : tx ((wordBy c).take (spotBy c)) ++ (⟨#[lc (c / 192 + 7 * z)]⟩ : Str) = tx ((wordBy c).take (spotBy c) ++ [lc (c / 192 + 7 * z)]) := tx_app _ [_]
        rw [e9]
        refine ⟨_, _, rfl, rfl, ?_, ?_⟩
        · rw [tx_len, tx_len, List.length_append, List.length_drop]
          exact XS.sz (by simp; omega)
        rw [tx_app]
        refine yes _ _ (Same.refl _) rfl ?_
        have e10 : nameBy c z = tx ((wordBy c).take (spotBy c) ++ [lc (c / 192 + 7 * z)] ++ (wordBy c).drop (spotBy c + 1)) := by
          unfold nameBy
          rw [if_neg h1, if_neg h2]
        rw [e10]
        exact .str _

abbrev s__law_sum_by : Stmt := topS 30
abbrev N__law_sum_by : List Str := ["_law_cell", "_law_names", "_law_wide", "_law_number_here", "_law_parts", "_law_name", "_law_by"]
abbrev P__law_sum_by : List Str := ["_law_cell", "_law_names", "_law_wide"]
theorem sc__law_sum_by : FnScope N__law_sum_by P__law_sum_by (defScope s__law_sum_by) := ⟨rfl, rfl, rfl, by decide +kernel, rfl, by decide +kernel, by decide +kernel⟩
theorem d__law_sum_by (F : FunAt K mg "_law_sum_by" s__law_sum_by P__law_sum_by) (Z : Bl mg) : DefAt P w K mg base CX0 1 "_law_sum_by" P__law_sum_by (sp_sum_by K) := by
  refine F.ok sc__law_sum_by (fun vs H Q E h => ?_) (fun f cdv A outer s H vs Q E hr h => ?_)
  · obtain ⟨_, _, _, _, rfl, _⟩ := h
    rfl
  obtain ⟨c, wd, nl, names, rfl, h1, nd, hl, w0, w1, q⟩ := h
  refine ⟨_, (pss_cons (ps_set (i := 3) sc__law_sum_by.nd rfl (Or.inl rfl) (pv 0))
        (pss_cons (ps_set (i := 4) sc__law_sum_by.nd rfl (Or.inl rfl) (pe_lst pa_nil))
        (pss_cons (ps_for PassesOwn.never rfl (pi_listK K (pe_callB (cr_sortedSK K) (by rfl) Z.sorted (by decide +kernel) (pa_cons (pv 1) pa_nil))) (pg_name (i := 5) sc__law_sum_by.nd rfl (Or.inl rfl))
          (pss_cons (ps_set (i := 3) sc__law_sum_by.nd rfl (Or.inl rfl) (pe_op op_mod (pe_op op_add (pe_op op_mul (pv 3) pe_int) pe_int) pe_int))
        (pss_cons (ps_set (i := 6) sc__law_sum_by.nd rfl (Or.inl rfl) (pe_op op_sub (pe_op op_modN (pe_op op_fdiv (pv 3) pe_int) (pe_op op_add (pe_op op_mul pe_int (pv 2)) pe_int)) (pv 2)))
        (pss_one (ps_if (pt_cmpR op_ne (pv 6) pe_int (nomark _))
          (pss_one (ps_expr (pe_bm PySem.F.plainAttrs_list PySem.F.slot_list_append PySem.F.type_list_append mt_append (pv 4) (pa_cons (pe_tup (pa_cons (pv 5) (pa_cons (pv 6) pa_nil))) pa_nil)))) pss_nil)))))
        (pss_cons (ps_set (i := 3) sc__law_sum_by.nd rfl (Or.inl rfl) (pe_op op_mod (pe_op op_add (pe_op op_mul (pv 3) pe_int) pe_int) pe_int))
        (pss_one (ps_ret (pe_tup (pa_cons (pe_op op_sub (pe_op op_mod (pe_op op_fdiv (pv 3) pe_int) pe_int) pe_int) (pa_cons (pe_callTy (call_tupK K) (by rfl) Z.tuple (by decide +kernel) (pa_cons (pv 4) pa_nil)) pa_nil))))))))), ?_⟩
  walk_at "go"
  refine ⟨XS.sz (by simp), fun p hp => ?_⟩
  obtain ⟨e1, h5⟩ := XS.newly (o := HO.lst _) hp
  generalize hH1 : upd _ p _ = H1 at e1 h5 ⊢
  walk_at "go"
  refine XS.x_sortS (e1.seq h1) (by omega) fun ys yl H2 hp2 hs2 hy2 e2 h2 => ?_
  have hne : p ≠ yl := fun q => by subst q; rw [h5] at hy2; cases hy2
  have es := srt_is nd hp2 hs2
  subst es
  have hlen : (srt names).length ≤ 8 := Nat.le_trans (srt_len names) hl
  refine XS.x_forL (SqL.of h2) (fun i σ H' => ∃ (y5 y6 : Option V) (us : List V), σ = [some (.int c), some (.ref nl), some (.int wd), some (.int (sumRun wd c ((srt names).take i)).1), some (.ref p), y5, y6] ∧ Same H H' ∧ H' yl = some (.lst ((srt names).map V.str)) ∧
    H' p = some (.lst us) ∧ DpAll K H' us ((sumRun wd c ((srt names).take i)).2.map prT) ∧ us.length ≤ i) ⟨none, none, [], rfl, e1.trans e2, h2, e2 _ _ h5, .nil, Nat.le_refl _⟩ (fun i σ H' _ ⟨_, _, _, _, _, h, _⟩ => SqL.of h) ?_ ?_
  · rintro i x σ H' hi ⟨y5, y6, us, rfl, e3, h3, h4, d4, l4⟩
    obtain ⟨z, hz, rfl⟩ := map_at hi
    have hmod : 0 ≤ mixN (sumRun wd c ((srt names).take i)).1 / 7 := Int.ediv_nonneg (mixN_b _).1 (by decide)
    have ii : i < (srt names).length := (List.getElem?_eq_some_iff.mp hz).1
    have tk : sumRun wd c ((srt names).take (i + 1)) = sumTurn wd (sumRun wd c ((srt names).take i)) z := by rw [XS.take_more hz, sumRun_more]
    walk_at "go"
    refine XS.x_I (by omega) ?_
    walk_at "go"
    rw [Int.fmod_eq_emod_of_nonneg _ (by omega : 0 ≤ 2 * wd + 1)]
    refine XS.x_dn (fun e => ?_) (fun e => ?_)
    · walk_at "go"
      refine XS.x_tyL' (XS.x_tyL h4) ?_
      walk_at "go"
      refine ⟨XS.sz (by simp), fun t ht => ?_⟩
      obtain ⟨e6, h6⟩ := XS.newly (o := HO.tup _) ht
      generalize hH6 : upd _ t _ = H6 at e6 h6 ⊢
      walk_at "go"
      have k := keeps_lst (ys := us ++ [.ref t]) (e6 _ _ h4)
      refine XS.x_app (e6 _ _ h4) (szl (by omega)) ?_
      walk_at "go"
      refine ⟨some (.str z), some (.int (byOf wd (mixN (sumRun wd c ((srt names).take i)).1))), us ++ [.ref t], ?_, XS.same_mut (e3.trans e6) hp, ?_, upd_same, ?_, by rw [List.length_append]; show us.length + 1 ≤ i + 1; omega⟩
      · rw [tk]
        rfl
      · rw [upd_ne (fun q => hne q.symm)]
        exact e6 _ _ h3
      · rw [tk]
        show DpAll K _ _ (List.map prT (if byOf wd (mixN (sumRun wd c ((srt names).take i)).1) = 0 then _ else _))
        rw [if_neg (show ¬ byOf wd (mixN (sumRun wd c ((srt names).take i)).1) = 0 from e), List.map_append]
        refine (DpAll.keeps k _ _ (im_pairs _) (DpAll.same e6 _ _ d4)).app (.one ?_)
        exact Dp.keeps k _ _ (im_pair _) (Dp.mkPair (p := (z, byOf wd (mixN (sumRun wd c ((srt names).take i)).1))) (SqT.of h6))
    · walk_at "go"
      refine ⟨some (.str z), some (.int (byOf wd (mixN (sumRun wd c ((srt names).take i)).1))), us, ?_, e3, h3, h4, ?_, by omega⟩
      · rw [tk]
        rfl
      · rw [tk]
        show DpAll K _ _ (List.map prT (if byOf wd (mixN (sumRun wd c ((srt names).take i)).1) = 0 then _ else _))
        rw [if_pos (show byOf wd (mixN (sumRun wd c ((srt names).take i)).1) = 0 from e)]
        exact d4
  · rintro σ H' ⟨y5, y6, us, rfl, e3, h3, h4, d4, l4⟩
    rw [List.length_map, List.take_length] at d4 ⊢
    walk_at "go"
    refine XS.x_tupL (SqL.of h4) fun t1 H4 ht1 e4 h6 => ?_
    walk_at "go"
    refine ⟨XS.sz (by simp), fun t ht => ?_⟩
    obtain ⟨e7, h7⟩ := XS.newly (o := HO.tup _) ht
    generalize hH7 : upd _ t _ = H7 at e7 h7 ⊢
    exact q t _ (e3.trans (e4.trans e7)) (Dp.mkSum (s := sumBy c names wd) (SqT.of h7) (SqT.of (e7 _ _ h6)) (DpAll.same (e4.trans e7) _ _ d4))

abbrev s__law_end_by : Stmt := topS 31
abbrev N__law_end_by : List Str := ["_law_cell", "_law_names", "_law_wide", "_law_most", "_law_one"]
abbrev P__law_end_by : List Str := ["_law_cell", "_law_names", "_law_wide", "_law_most"]
theorem sc__law_end_by : FnScope N__law_end_by P__law_end_by (defScope s__law_end_by) := ⟨rfl, rfl, rfl, by decide +kernel, rfl, by decide +kernel, by decide +kernel⟩
theorem d__law_end_by (F : FunAt K mg "_law_end_by" s__law_end_by P__law_end_by) (Z : Bl mg) (D__law_sum_by : DefAt P w K mg base CX0 1 "_law_sum_by" P__law_sum_by (sp_sum_by K)) : DefAt P w K mg base CX0 2 "_law_end_by" P__law_end_by (sp_end_by K) := by
  refine F.ok sc__law_end_by (fun vs H Q E h => ?_) (fun f cdv A outer s H vs Q E hr h => ?_)
  · obtain ⟨_, _, _, _, _, rfl, _⟩ := h
    rfl
  obtain ⟨c, wd, most, nl, names, rfl, h1, nd, hl, w0, w1, hm, q⟩ := h
  refine ⟨_, (pss_cons (ps_set (i := 4) sc__law_end_by.nd rfl (Or.inl rfl) (pe_callD D__law_sum_by (hr.mono (by first | exact Nat.le_refl _ | omega | decide)) rfl pass0 (pa_cons (pe_op op_fdiv (pv 0) pe_int) (pa_cons (pv 1) (pa_cons (pv 2) pa_nil)))))
        (pss_cons (ps_if (pt_cmpR op_eq (pe_op op_mod (pv 0) pe_int) pe_int (nomark _))
          (pss_one (ps_ret (pe_tup (pa_cons pe_str (pa_cons (pv 4) pa_nil))))) pss_nil)
        (pss_cons (ps_if (pt_cmpR op_eq (pe_op op_mod (pv 0) pe_int) pe_int (nomark _))
          (pss_one (ps_ret (pe_tup (pa_cons pe_str (pa_cons (pe_op op_add pe_int (pe_op op_modN (pe_op op_fdiv (pv 0) pe_int) (pv 3))) (pa_cons (pv 4) pa_nil)))))) pss_nil)
        (pss_one (ps_ret (pe_tup (pa_cons pe_str (pa_cons (pv 4) pa_nil)))))))), ?_⟩
  walk_at "go"
  refine ⟨c / 12, wd, nl, names, rfl, h1, nd, hl, w0, w1, fun t H1 e1 d1 => ?_⟩
  walk_at "go"
  unfold endBy at q
  refine XS.x_d (fun e => ?_) (fun e => ?_)
  · rw [if_pos e] at q
    walk_at "go"
    refine ⟨XS.sz (by simp), fun t2 ht2 => ?_⟩
    obtain ⟨e2, h2⟩ := XS.newly (o := HO.tup _) ht2
    generalize hH2 : upd _ t2 _ = H2 at e2 h2 ⊢
    exact q _ _ (e1.trans e2) (Dp.mkNought (SqT.of h2) (Dp.same e2 _ _ d1))
  rw [if_neg e] at q
  walk_at "go"
  refine XS.x_d (fun e => ?_) (fun e => ?_)
  · rw [if_pos e] at q
    walk_at "go"
    refine XS.x_I (by omega) ?_
    walk_at "go"
    rw [Int.fmod_eq_emod_of_nonneg _ (by omega : 0 ≤ most)]
    refine ⟨XS.sz (by simp), fun t2 ht2 => ?_⟩
    obtain ⟨e2, h2⟩ := XS.newly (o := HO.tup _) ht2
    generalize hH2 : upd _ t2 _ = H2 at e2 h2 ⊢
    exact q _ _ (e1.trans e2) (Dp.mkGoes (SqT.of h2) (Dp.same e2 _ _ d1))
  · rw [if_neg e] at q
    walk_at "go"
    refine ⟨XS.sz (by simp), fun t2 ht2 => ?_⟩
    obtain ⟨e2, h2⟩ := XS.newly (o := HO.tup _) ht2
    generalize hH2 : upd _ t2 _ = H2 at e2 h2 ⊢
    exact q _ _ (e1.trans e2) (Dp.mkAbove (SqT.of h2) (Dp.same e2 _ _ d1))
abbrev s__law_plain_by : Stmt := topS 32
abbrev N__law_plain_by : List Str := ["_law_script", "_law_first", "_law_count", "_law_names", "_law_wide", "_law_most", "_law_begin", "_law_made_of", "_law_k", "_law_cell", "_law_end", "_law_way"]
abbrev P__law_plain_by : List Str := ["_law_script", "_law_first", "_law_count", "_law_names", "_law_wide", "_law_most"]
theorem sc__law_plain_by : FnScope N__law_plain_by P__law_plain_by (defScope s__law_plain_by) := ⟨rfl, rfl, rfl, by decide +kernel, rfl, by decide +kernel, by decide +kernel⟩
theorem d__law_plain_by (F : FunAt K mg "_law_plain_by" s__law_plain_by P__law_plain_by) (Z : Bl mg) (D__law_cell_at : DefAt P w K mg base CX0 1 "_law_cell_at" P__law_cell_at (sp_cell_at K)) (D__law_end_by : DefAt P w K mg base CX0 2 "_law_end_by" P__law_end_by (sp_end_by K)) :
    DefAt P w K mg base CX0 3 "_law_plain_by" P__law_plain_by (sp_plain_by K) := by
  refine F.ok sc__law_plain_by (fun vs H Q E h => ?_) (fun f cdv A outer s H vs Q E hr h => ?_)
  · obtain ⟨_, _, _, _, _, _, _, _, rfl, _⟩ := h
    rfl
  obtain ⟨a, ns, first, count, wd, most, nl, names, rfl, hS, f0, f1, c0, c1, h1, nd, hl, w0, w1, hm, q⟩ := h
  refine ⟨_, (pss_cons (ps_set (i := 6) sc__law_plain_by.nd rfl (Or.inl rfl) (pe_callD D__law_cell_at (hr.mono (by first | exact Nat.le_refl _ | omega | decide)) rfl pass0 (pa_cons (pv 0) (pa_cons (pv 1) pa_nil))))
        (pss_cons (ps_if (pt_cmpR op_eq (pe_op op_mod (pv 6) pe_int) pe_int (nomark _))
          (pss_one (ps_ret (pe_tup (pa_cons pe_str (pa_cons (pe_tup pa_nil) pa_nil))))) pss_nil)
        (Evl.pss_cut (ps_if (pt_cmpR op_eq (pe_op op_mod (pv 6) pe_int) pe_int (nomark _))
          (pss_one (ps_set (i := 3) sc__law_plain_by.nd rfl (Or.inl rfl) (pe_lst pa_nil))) pss_nil)
        (pss_cons (ps_set (i := 7) sc__law_plain_by.nd rfl (Or.inl rfl) (pe_callD D__law_end_by (hr.mono (by first | exact Nat.le_refl _ | omega | decide)) rfl pass0 (pa_cons (pv 6) (pa_cons (pv 3) (pa_cons (pv 4) (pa_cons (pv 5) pa_nil))))))
        (pss_cons (ps_for PassesOwn.never rfl (pi_range2 (by rfl) Z.range (pa_cons pe_int (pa_cons (pv 2) pa_nil))) (pg_name (i := 8) sc__law_plain_by.nd rfl (Or.inl rfl))
          (pss_cons (ps_set (i := 9) sc__law_plain_by.nd rfl (Or.inl rfl) (pe_op op_add (pe_callD D__law_cell_at (hr.mono (by first | exact Nat.le_refl _ | omega | decide)) rfl pass0 (pa_cons (pv 0) (pa_cons (pe_op op_add (pv 1) (pv 8)) pa_nil))) (pe_op op_mul pe_int (pv 8))))
        (pss_cons (ps_set (i := 10) sc__law_plain_by.nd rfl (Or.inl rfl) (pe_callD D__law_end_by (hr.mono (by first | exact Nat.le_refl _ | omega | decide)) rfl pass0 (pa_cons (pe_op op_fdiv (pv 9) pe_int) (pa_cons (pv 3) (pa_cons (pv 4) (pa_cons (pv 5) pa_nil))))))
        (pss_cons (ps_set (i := 11) sc__law_plain_by.nd rfl (Or.inl rfl) (pe_op op_mod (pv 9) pe_int))
        (pss_cons (ps_if (pt_cmpR op_lt (pv 11) pe_int (nomark _))
          (pss_one (ps_set (i := 7) sc__law_plain_by.nd rfl (Or.inl rfl) (pe_tup (pa_cons (pe_ix (ix_listK K) (pe_lst (pa_cons pe_str (pa_cons pe_str pa_nil))) (pv 11) (fun _ _ => rfl)) (pa_cons (pe_tup (pa_cons (pv 7) (pa_cons (pv 10) pa_nil))) pa_nil))))) pss_nil)
        (pss_cons (ps_if (pt_cmpR op_eq (pv 11) pe_int (nomark _))
          (pss_one (ps_set (i := 7) sc__law_plain_by.nd rfl (Or.inl rfl) (pe_tup (pa_cons pe_str (pa_cons (pe_tup (pa_cons (pe_tup (pa_cons pe_str (pa_cons (pv 7) pa_nil))) (pa_cons (pv 10) pa_nil))) pa_nil))))) pss_nil)
        (pss_cons (ps_if (pt_cmpR op_eq (pv 11) pe_int (nomark _))
          (pss_one (ps_set (i := 7) sc__law_plain_by.nd rfl (Or.inl rfl) (pe_tup (pa_cons pe_str (pa_cons (pe_tup (pa_cons pe_str (pa_cons (pe_tup (pa_cons (pv 10) (pa_cons (pv 7) (pa_cons (pe_tup (pa_cons pe_str (pa_cons (pe_tup pa_nil) pa_nil))) pa_nil)))) pa_nil))) pa_nil))))) pss_nil)
        (pss_cons (ps_if (pt_cmpR op_eq (pv 11) pe_int (nomark _))
          (pss_one (ps_set (i := 7) sc__law_plain_by.nd rfl (Or.inl rfl) (pe_tup (pa_cons pe_str (pa_cons (pe_tup (pa_cons (pe_tup (pa_cons pe_str (pa_cons (pe_tup (pa_cons (pv 10) (pa_cons (pv 7) pa_nil))) pa_nil))) (pa_cons (pe_tup (pa_cons pe_str (pa_cons (pv 10) pa_nil))) pa_nil))) pa_nil))))) pss_nil)
        (pss_cons (ps_if (pt_cmpR op_eq (pv 11) pe_int (nomark _))
          (pss_one (ps_set (i := 7) sc__law_plain_by.nd rfl (Or.inl rfl) (pe_tup (pa_cons pe_str (pa_cons (pe_tup (pa_cons (pv 10) (pa_cons (pe_tup (pa_cons pe_str (pa_cons (pe_tup pa_nil) pa_nil))) (pa_cons (pv 7) pa_nil)))) pa_nil))))) pss_nil)
        (pss_cons (ps_if (pt_cmpR op_eq (pv 11) pe_int (nomark _))
          (pss_one (ps_set (i := 7) sc__law_plain_by.nd rfl (Or.inl rfl) (pe_tup (pa_cons pe_str (pa_cons (pe_tup (pa_cons (pe_tup (pa_cons pe_str (pa_cons (pe_tup (pa_cons pe_str (pa_cons (pv 7) pa_nil))) pa_nil))) (pa_cons (pe_tup (pa_cons pe_str (pa_cons (pv 10) pa_nil))) pa_nil))) pa_nil))))) pss_nil)
        (pss_cons (ps_if (pt_cmpR op_eq (pv 11) pe_int (nomark _))
          (pss_one (ps_set (i := 7) sc__law_plain_by.nd rfl (Or.inl rfl) (pe_tup (pa_cons pe_str (pa_cons (pe_tup (pa_cons (pe_tup (pa_cons pe_str (pa_cons (pe_tup (pa_cons (pv 7) pa_nil)) pa_nil))) (pa_cons (pe_tup (pa_cons pe_str (pa_cons (pe_tup (pa_cons (pe_tup (pa_cons pe_str (pa_cons (pe_tup (pa_cons (pv 10) pa_nil)) pa_nil))) pa_nil)) pa_nil))) pa_nil))) pa_nil))))) pss_nil)
        (pss_one (ps_if (pt_cmpR op_eq (pv 11) pe_int (nomark _))
          (pss_one (ps_set (i := 7) sc__law_plain_by.nd rfl (Or.inl rfl) (pe_tup (pa_cons (pe_ix (ix_listK K) (pe_lst (pa_cons pe_str (pa_cons pe_str pa_nil))) (pe_op op_mod (pe_op op_fdiv (pv 9) pe_int) pe_int) (fun _ _ => rfl)) (pa_cons (pe_op (op_catK K) (pe_tup (pa_cons (pv 10) (pa_cons (pv 10) (pa_cons (pv 7) pa_nil)))) (pe_op (op_repU K) (pe_tup (pa_cons (pv 10) pa_nil)) (pe_op op_add pe_int (pe_op op_mod (pe_op op_fdiv (pv 9) pe_int) pe_int)))) pa_nil))))) pss_nil)))))))))))))
        (pss_one (ps_ret (pv 7)))))))), ?_⟩
  walk_at "go"
  refine ⟨a, ns, first, rfl, f0, hS, ?_⟩
  walk_at "go"
  unfold plainBy at q
  refine XS.x_d (fun e => ?_) (fun e => ?_)
  · rw [if_pos e] at q
    walk_at "go"
    refine ⟨XS.sz (by simp), fun t1 ht1 => ?_⟩
    obtain ⟨e1, h2⟩ := XS.newly (o := HO.tup _) ht1
    generalize hH1 : upd _ t1 _ = H1 at e1 h2 ⊢
    walk_at "go"
    refine ⟨XS.sz (by simp), fun t2 ht2 => ?_⟩
    obtain ⟨e2, h3⟩ := XS.newly (o := HO.tup _) ht2
    generalize hH2 : upd _ t2 _ = H2 at e2 h3 ⊢
    exact q _ _ (e1.trans e2) (Dp.mkCon (l := []) (SqT.of h3) rfl (SqT.of (e2 _ _ h2)) .nil)
  rw [if_neg e] at q
  refine XS.x_cut (fun σ H' => ∃ n2 : Addr, σ = [some (.ref a), some (.int first), some (.int count), some (.ref n2), some (.int wd), some (.int most), some (.int (cell ns first)), none, none, none, none, none] ∧ Same H H' ∧ SqL K H' n2 ((namesFor (cell ns first) names).map V.str)) ?_ ?_
  · walk_at "go"
    unfold namesFor
    refine XS.x_d (fun e => ?_) (fun e => ?_)
    · rw [if_pos e]
      walk_at "go"
      refine ⟨XS.sz (by simp), fun l hl => ?_⟩
      obtain ⟨e1, h2⟩ := XS.newly (o := HO.lst _) hl
      generalize hGH1 : upd _ l _ = H1 at e1 h2 ⊢
      walk_at "go"
      exact ⟨_, rfl, e1, SqL.of h2⟩
    · rw [if_neg e]
      walk_at "go"
      exact ⟨_, rfl, Same.refl _, h1⟩
  rintro σ H1 ⟨n2, rfl, e1, hn2⟩
  have nd2 : (namesFor (cell ns first) names).Nodup := by unfold namesFor; split; exact List.nodup_nil; exact nd
  have hl2 : (namesFor (cell ns first) names).length ≤ 8 := by unfold namesFor; split; exact Nat.zero_le _; exact hl
  generalize namesFor (cell ns first) names = nm2 at q hn2 nd2 hl2
  walk_at "go"
  refine ⟨_, wd, most, n2, nm2, rfl, hn2, nd2, hl2, w0, w1, hm, fun t2 H2 e2 d2 => ?_⟩
  walk_at "go"
  refine XS.x_forR2 (by omega) (fun i σ H' => ∃ (y8 y9 y10 y11 : Option V) (t : Addr), σ = [some (.ref a), some (.int first), some (.int count), some (.ref n2), some (.int wd), some (.int most), some (.int (cell ns first)), some (.ref t), y8, y9, y10, y11] ∧ Same H2 H' ∧
    Dp K H' (.ref t) (toD (plainRun ns first nm2 wd most i))) ⟨_, _, _, _, t2, rfl, Same.refl _, d2⟩ ?_ ?_
  · rintro i σ H' hi ⟨y8, y9, y10, y11, t, rfl, e3, d3⟩
    walk_at "go"
    refine ⟨a, ns, first + (1 + i), rfl, by omega, (e1.trans (e2.trans e3)).seq hS, ?_⟩
    walk_at "go"
    refine ⟨_, wd, most, n2, nm2, rfl, (e2.trans e3).seq hn2, nd2, hl2, w0, w1, hm, fun t4 H4 e4 d4 => ?_⟩
    walk_at "go"
    have step : toD (plainRun ns first nm2 wd most (i + 1)) = toD (turnBy ns first nm2 wd most (plainRun ns first nm2 wd most i) i) := rfl
    rw [step]
    unfold turnBy
    have p0 := Int.emod_nonneg (cell ns (first + (1 + i)) + 104729 * (1 + i)) (by decide : (9 : Int) ≠ 0)
    have p9 := Int.emod_lt_of_pos (cell ns (first + (1 + i)) + 104729 * (1 + i)) (by decide : (0 : Int) < 9)
    have d3' := Dp.same e4 _ _ d3
    generalize plainRun ns first nm2 wd most i = A1 at d3 d3'
    generalize endBy ((cell ns (first + (1 + i)) + 104729 * (1 + i)) / 9) nm2 wd most = E1 at d4
    generalize cell ns (first + (1 + i)) + 104729 * (1 + i) = c at p0 p9
    generalize c % 9 = way at p0 p9
    have hway : way = 0 ∨ way = 1 ∨ way = 2 ∨ way = 3 ∨ way = 4 ∨ way = 5 ∨ way = 6 ∨ way = 7 ∨ way = 8 := by omega
    rcases hway with rfl | rfl | rfl | rfl | rfl | rfl | rfl | rfl | rfl
    · walk_at "all"
      refine ⟨XS.sz (by simp), fun l1 hl1 => ?_⟩
      obtain ⟨e5, h5⟩ := XS.newly (o := HO.lst _) hl1
      generalize hGH5 : upd _ l1 _ = H5 at e5 h5 ⊢
      walk_at "go"
      refine XS.x_ixL (SqL.of h5) (XS.atI_get (i := 0) rfl) ?_
      walk_at "go"
      refine ⟨XS.sz (by simp), fun t6 ht6 => ?_⟩
      obtain ⟨e6, h6⟩ := XS.newly (o := HO.tup _) ht6
      generalize hGH6 : upd _ t6 _ = H6 at e6 h6 ⊢
      walk_at "go"
      refine ⟨XS.sz (by simp), fun t7 ht7 => ?_⟩
      obtain ⟨e7, h7⟩ := XS.newly (o := HO.tup _) ht7
      generalize hGH7 : upd _ t7 _ = H7 at e7 h7 ⊢
      walk_at "go"
      walk_at "all"
      have ek := e5.trans (e6.trans e7)
      exact ⟨_, _, _, _, t7, rfl, e3.trans (e4.trans ek), Dp.mkCon (o := true) (l := [A1, E1]) (SqT.of h7) rfl (SqT.of (e7 _ _ h6)) (.cons (Dp.same ek _ _ d3') (.one (Dp.same ek _ _ d4)))⟩
    · walk_at "all"
      refine ⟨XS.sz (by simp), fun l1 hl1 => ?_⟩
      obtain ⟨e5, h5⟩ := XS.newly (o := HO.lst _) hl1
      generalize hGH5 : upd _ l1 _ = H5 at e5 h5 ⊢
      walk_at "go"
      refine XS.x_ixL (SqL.of h5) (XS.atI_get (i := 1) rfl) ?_
      walk_at "go"
      refine ⟨XS.sz (by simp), fun t6 ht6 => ?_⟩
      obtain ⟨e6, h6⟩ := XS.newly (o := HO.tup _) ht6
      generalize hGH6 : upd _ t6 _ = H6 at e6 h6 ⊢
      walk_at "go"
      refine ⟨XS.sz (by simp), fun t7 ht7 => ?_⟩
      obtain ⟨e7, h7⟩ := XS.newly (o := HO.tup _) ht7
      generalize hGH7 : upd _ t7 _ = H7 at e7 h7 ⊢
      walk_at "go"
      walk_at "all"
      have ek := e5.trans (e6.trans e7)
      exact ⟨_, _, _, _, t7, rfl, e3.trans (e4.trans ek), XS.Dp.mkCon (o := false) (l := [A1, E1]) (SqT.of h7) rfl (SqT.of (e7 _ _ h6)) (.cons (Dp.same ek _ _ d3') (.one (Dp.same ek _ _ d4)))⟩
    · walk_at "all"
      refine ⟨XS.sz (by simp), fun t5 ht5 => ?_⟩
      obtain ⟨e5, h5⟩ := XS.newly (o := HO.tup _) ht5
      generalize hGH5 : upd _ t5 _ = H5 at e5 h5 ⊢
      walk_at "go"
      refine ⟨XS.sz (by simp), fun t6 ht6 => ?_⟩
      obtain ⟨e6, h6⟩ := XS.newly (o := HO.tup _) ht6
      generalize hGH6 : upd _ t6 _ = H6 at e6 h6 ⊢
      walk_at "go"
      refine ⟨XS.sz (by simp), fun t7 ht7 => ?_⟩
      obtain ⟨e7, h7⟩ := XS.newly (o := HO.tup _) ht7
      generalize hGH7 : upd _ t7 _ = H7 at e7 h7 ⊢
      walk_at "go"
      walk_at "all"
      have ek := (e5.trans (e6.trans e7))
      exact ⟨_, _, _, _, t7, rfl, e3.trans (e4.trans ek), (XS.Dp.mkCon (o := false) (l := [.neg A1, E1]) (SqT.of h7) rfl (e7.seqT (SqT.of h6)) (.cons (XS.Dp.mkNeg ((e6.trans e7).seqT (SqT.of h5)) (Dp.same ek _ _ d3')) (.cons (Dp.same ek _ _ d4) .nil)))⟩
    · walk_at "all"
      refine ⟨XS.sz (by simp), fun t5 ht5 => ?_⟩
      obtain ⟨e5, h5⟩ := XS.newly (o := HO.tup _) ht5
      generalize hGH5 : upd _ t5 _ = H5 at e5 h5 ⊢
      walk_at "go"
      refine ⟨XS.sz (by simp), fun t6 ht6 => ?_⟩
      obtain ⟨e6, h6⟩ := XS.newly (o := HO.tup _) ht6
      generalize hGH6 : upd _ t6 _ = H6 at e6 h6 ⊢
      walk_at "go"
      refine ⟨XS.sz (by simp), fun t7 ht7 => ?_⟩
      obtain ⟨e7, h7⟩ := XS.newly (o := HO.tup _) ht7
      generalize hGH7 : upd _ t7 _ = H7 at e7 h7 ⊢
      walk_at "go"
      refine ⟨XS.sz (by simp), fun t8 ht8 => ?_⟩
      obtain ⟨e8, h8⟩ := XS.newly (o := HO.tup _) ht8
      generalize hGH8 : upd _ t8 _ = H8 at e8 h8 ⊢
      walk_at "go"
      refine ⟨XS.sz (by simp), fun t9 ht9 => ?_⟩
      obtain ⟨e9, h9⟩ := XS.newly (o := HO.tup _) ht9
      generalize hGH9 : upd _ t9 _ = H9 at e9 h9 ⊢
      walk_at "go"
      walk_at "all"
      have ek := (e5.trans (e6.trans (e7.trans (e8.trans e9))))
      exact ⟨_, _, _, _, t9, rfl, e3.trans (e4.trans ek), (XS.Dp.mkNeg (SqT.of h9) (XS.Dp.mkCon (o := true) (l := [E1, A1, .con true []]) (e9.seqT (SqT.of h8)) rfl ((e8.trans e9).seqT (SqT.of h7)) (.cons (Dp.same ek _ _ d4) (.cons (Dp.same ek _ _ d3') (.cons (XS.Dp.mkCon (o := true) (l := []) ((e7.trans (e8.trans e9)).seqT (SqT.of h6)) rfl ((e6.trans (e7.trans (e8.trans e9))).seqT (SqT.of h5)) .nil) .nil)))))⟩
    · walk_at "all"
      refine ⟨XS.sz (by simp), fun t5 ht5 => ?_⟩
      obtain ⟨e5, h5⟩ := XS.newly (o := HO.tup _) ht5
      generalize hGH5 : upd _ t5 _ = H5 at e5 h5 ⊢
      walk_at "go"
      refine ⟨XS.sz (by simp), fun t6 ht6 => ?_⟩
      obtain ⟨e6, h6⟩ := XS.newly (o := HO.tup _) ht6
      generalize hGH6 : upd _ t6 _ = H6 at e6 h6 ⊢
      walk_at "go"
      refine ⟨XS.sz (by simp), fun t7 ht7 => ?_⟩
      obtain ⟨e7, h7⟩ := XS.newly (o := HO.tup _) ht7
      generalize hGH7 : upd _ t7 _ = H7 at e7 h7 ⊢
      walk_at "go"
      refine ⟨XS.sz (by simp), fun t8 ht8 => ?_⟩
      obtain ⟨e8, h8⟩ := XS.newly (o := HO.tup _) ht8
      generalize hGH8 : upd _ t8 _ = H8 at e8 h8 ⊢
      walk_at "go"
      refine ⟨XS.sz (by simp), fun t9 ht9 => ?_⟩
      obtain ⟨e9, h9⟩ := XS.newly (o := HO.tup _) ht9
      generalize hGH9 : upd _ t9 _ = H9 at e9 h9 ⊢
      walk_at "go"
      walk_at "all"
      have ek := (e5.trans (e6.trans (e7.trans (e8.trans e9))))
      exact ⟨_, _, _, _, t9, rfl, e3.trans (e4.trans ek), (XS.Dp.mkCon (o := true) (l := [.con false [E1, A1], .neg E1]) (SqT.of h9) rfl (e9.seqT (SqT.of h8)) (.cons (XS.Dp.mkCon (o := false) (l := [E1, A1]) ((e7.trans (e8.trans e9)).seqT (SqT.of h6)) rfl ((e6.trans (e7.trans (e8.trans e9))).seqT (SqT.of h5)) (.cons (Dp.same ek _ _ d4) (.cons (Dp.same ek _ _ d3') .nil))) (.cons (XS.Dp.mkNeg ((e8.trans e9).seqT (SqT.of h7)) (Dp.same ek _ _ d4)) .nil)))⟩
    · walk_at "all"
      refine ⟨XS.sz (by simp), fun t5 ht5 => ?_⟩
      obtain ⟨e5, h5⟩ := XS.newly (o := HO.tup _) ht5
      generalize hGH5 : upd _ t5 _ = H5 at e5 h5 ⊢
      walk_at "go"
      refine ⟨XS.sz (by simp), fun t6 ht6 => ?_⟩
      obtain ⟨e6, h6⟩ := XS.newly (o := HO.tup _) ht6
      generalize hGH6 : upd _ t6 _ = H6 at e6 h6 ⊢
      walk_at "go"
      refine ⟨XS.sz (by simp), fun t7 ht7 => ?_⟩
      obtain ⟨e7, h7⟩ := XS.newly (o := HO.tup _) ht7
      generalize hGH7 : upd _ t7 _ = H7 at e7 h7 ⊢
      walk_at "go"
      refine ⟨XS.sz (by simp), fun t8 ht8 => ?_⟩
      obtain ⟨e8, h8⟩ := XS.newly (o := HO.tup _) ht8
      generalize hGH8 : upd _ t8 _ = H8 at e8 h8 ⊢
      walk_at "go"
      walk_at "all"
      have ek := (e5.trans (e6.trans (e7.trans e8)))
      exact ⟨_, _, _, _, t8, rfl, e3.trans (e4.trans ek), (XS.Dp.mkCon (o := false) (l := [E1, .con false [], A1]) (SqT.of h8) rfl (e8.seqT (SqT.of h7)) (.cons (Dp.same ek _ _ d4) (.cons (XS.Dp.mkCon (o := false) (l := []) ((e7.trans e8).seqT (SqT.of h6)) rfl ((e6.trans (e7.trans e8)).seqT (SqT.of h5)) .nil) (.cons (Dp.same ek _ _ d3') .nil))))⟩
    · walk_at "all"
      refine ⟨XS.sz (by simp), fun t5 ht5 => ?_⟩
      obtain ⟨e5, h5⟩ := XS.newly (o := HO.tup _) ht5
      generalize hGH5 : upd _ t5 _ = H5 at e5 h5 ⊢
      walk_at "go"
      refine ⟨XS.sz (by simp), fun t6 ht6 => ?_⟩
      obtain ⟨e6, h6⟩ := XS.newly (o := HO.tup _) ht6
      generalize hGH6 : upd _ t6 _ = H6 at e6 h6 ⊢
      walk_at "go"
      refine ⟨XS.sz (by simp), fun t7 ht7 => ?_⟩
      obtain ⟨e7, h7⟩ := XS.newly (o := HO.tup _) ht7
      generalize hGH7 : upd _ t7 _ = H7 at e7 h7 ⊢
      walk_at "go"
      refine ⟨XS.sz (by simp), fun t8 ht8 => ?_⟩
      obtain ⟨e8, h8⟩ := XS.newly (o := HO.tup _) ht8
      generalize hGH8 : upd _ t8 _ = H8 at e8 h8 ⊢
      walk_at "go"
      refine ⟨XS.sz (by simp), fun t9 ht9 => ?_⟩
      obtain ⟨e9, h9⟩ := XS.newly (o := HO.tup _) ht9
      generalize hGH9 : upd _ t9 _ = H9 at e9 h9 ⊢
      walk_at "go"
      walk_at "all"
      have ek := (e5.trans (e6.trans (e7.trans (e8.trans e9))))
      exact ⟨_, _, _, _, t9, rfl, e3.trans (e4.trans ek), (XS.Dp.mkCon (o := true) (l := [.neg (.neg A1), .neg E1]) (SqT.of h9) rfl (e9.seqT (SqT.of h8)) (.cons (XS.Dp.mkNeg ((e7.trans (e8.trans e9)).seqT (SqT.of h6)) (XS.Dp.mkNeg ((e6.trans (e7.trans (e8.trans e9))).seqT (SqT.of h5)) (Dp.same ek _ _ d3'))) (.cons (XS.Dp.mkNeg ((e8.trans e9).seqT (SqT.of h7)) (Dp.same ek _ _ d4)) .nil)))⟩
    · walk_at "all"
      refine ⟨XS.sz (by simp), fun t5 ht5 => ?_⟩
      obtain ⟨e5, h5⟩ := XS.newly (o := HO.tup _) ht5
      generalize hGH5 : upd _ t5 _ = H5 at e5 h5 ⊢
      walk_at "go"
      refine ⟨XS.sz (by simp), fun t6 ht6 => ?_⟩
      obtain ⟨e6, h6⟩ := XS.newly (o := HO.tup _) ht6
      generalize hGH6 : upd _ t6 _ = H6 at e6 h6 ⊢
      walk_at "go"
      refine ⟨XS.sz (by simp), fun t7 ht7 => ?_⟩
      obtain ⟨e7, h7⟩ := XS.newly (o := HO.tup _) ht7
      generalize hGH7 : upd _ t7 _ = H7 at e7 h7 ⊢
      walk_at "go"
      refine ⟨XS.sz (by simp), fun t8 ht8 => ?_⟩
      obtain ⟨e8, h8⟩ := XS.newly (o := HO.tup _) ht8
      generalize hGH8 : upd _ t8 _ = H8 at e8 h8 ⊢
      walk_at "go"
      refine ⟨XS.sz (by simp), fun t9 ht9 => ?_⟩
      obtain ⟨e9, h9⟩ := XS.newly (o := HO.tup _) ht9
      generalize hGH9 : upd _ t9 _ = H9 at e9 h9 ⊢
      walk_at "go"
      refine ⟨XS.sz (by simp), fun t10 ht10 => ?_⟩
      obtain ⟨e10, h10⟩ := XS.newly (o := HO.tup _) ht10
      generalize hGH10 : upd _ t10 _ = H10 at e10 h10 ⊢
      walk_at "go"
      refine ⟨XS.sz (by simp), fun t11 ht11 => ?_⟩
      obtain ⟨e11, h11⟩ := XS.newly (o := HO.tup _) ht11
      generalize hGH11 : upd _ t11 _ = H11 at e11 h11 ⊢
      walk_at "go"
      refine ⟨XS.sz (by simp), fun t12 ht12 => ?_⟩
      obtain ⟨e12, h12⟩ := XS.newly (o := HO.tup _) ht12
      generalize hGH12 : upd _ t12 _ = H12 at e12 h12 ⊢
      walk_at "go"
      walk_at "all"
      have ek := (e5.trans (e6.trans (e7.trans (e8.trans (e9.trans (e10.trans (e11.trans e12)))))))
      exact ⟨_, _, _, _, t12, rfl, e3.trans (e4.trans ek), (XS.Dp.mkCon (o := true) (l := [.con false [A1], .con false [.con true [E1]]]) (SqT.of h12) rfl (e12.seqT (SqT.of h11)) (.cons (XS.Dp.mkCon (o := false) (l := [A1]) ((e7.trans (e8.trans (e9.trans (e10.trans (e11.trans e12))))).seqT (SqT.of h6)) rfl ((e6.trans (e7.trans (e8.trans (e9.trans (e10.trans (e11.trans e12)))))).seqT (SqT.of h5)) (.cons (Dp.same ek _ _ d3') .nil)) (.cons (XS.Dp.mkCon (o := false) (l := [.con true [E1]]) ((e11.trans e12).seqT (SqT.of h10)) rfl ((e10.trans (e11.trans e12)).seqT (SqT.of h9)) (.cons (XS.Dp.mkCon (o := true) (l := [E1]) ((e9.trans (e10.trans (e11.trans e12))).seqT (SqT.of h8)) rfl ((e8.trans (e9.trans (e10.trans (e11.trans e12)))).seqT (SqT.of h7)) (.cons (Dp.same ek _ _ d4) .nil)) .nil)) .nil)))⟩
    · walk_at "all"
      refine ⟨XS.sz (by simp), fun l1 hl1 => ?_⟩
      obtain ⟨e5, h5⟩ := XS.newly (o := HO.lst _) hl1
      generalize hGH5 : upd _ l1 _ = H5 at e5 h5 ⊢
      walk_at "go"
      have hb0 := Int.emod_nonneg (c / 9) (by decide : (2 : Int) ≠ 0)
      have hb1 := Int.emod_lt_of_pos (c / 9) (by decide : (0 : Int) < 2)
      have hd0 := Int.emod_nonneg (c / 18) (by decide : (18 : Int) ≠ 0)
      have hd1 := Int.emod_lt_of_pos (c / 18) (by decide : (0 : Int) < 18)
      obtain ⟨wd', hwa, hwe⟩ : ∃ wd' : Str, atI [V.str "and", V.str "or"] (c / 9 % 2) = some (.str wd') ∧ wd' = conW (decide (c / 9 % 2 = 0)) := by
        rcases (by omega : c / 9 % 2 = 0 ∨ c / 9 % 2 = 1) with e | e <;> rw [e] <;> exact ⟨_, rfl, rfl⟩
      refine XS.x_ixL (SqL.of h5) hwa ?_
      walk_at "go"
      refine ⟨XS.sz (by simp), fun t6 ht6 => ?_⟩
      obtain ⟨e6, h6⟩ := XS.newly (o := HO.tup _) ht6
      generalize hGH6 : upd _ t6 _ = H6 at e6 h6 ⊢
      walk_at "go"
      refine ⟨XS.sz (by simp), fun t7 ht7 => ?_⟩
      obtain ⟨e7, h7⟩ := XS.newly (o := HO.tup _) ht7
      generalize hGH7 : upd _ t7 _ = H7 at e7 h7 ⊢
      walk_at "go"
      refine x_repU (SqT.of h7) (by simp) (by omega) (by omega) (by simp) fun t8 H8 e8 h8 => ?_
      rw [rep_one] at h8
      walk_at "go"
      refine x_catA (SqT.of (e8 _ _ (e7 _ _ h6))) h8 (by simp) (by simp; omega) (by simp; omega) fun t9 H9 e9 h9 => ?_
      walk_at "go"
      refine ⟨XS.sz (by simp), fun t10 ht10 => ?_⟩
      obtain ⟨e10, h10⟩ := XS.newly (o := HO.tup _) ht10
      generalize hGH10 : upd _ t10 _ = H10 at e10 h10 ⊢
      walk_at "go"
      walk_at "all"
      have ek := e5.trans (e6.trans (e7.trans (e8.trans (e9.trans e10))))
      have dE := Dp.same ek _ _ d4
      have dl : DpAll K H10 ([.ref t4, .ref t4, .ref t] ++ List.replicate (1 + c / 18 % 18).toNat (.ref t4)) (([E1, E1, A1] ++ List.replicate (1 + c / 18 % 18).toNat E1).map toD) := by
        rw [List.map_append, List.map_replicate]
        exact DpAll.app (.cons dE (.cons dE (.one (Dp.same ek _ _ d3')))) (XS.DpAll.rep dE _)
      exact ⟨_, _, _, _, t10, rfl, e3.trans (e4.trans ek), XS.Dp.mkCon (SqT.of h10) hwe (SqT.of (e10 _ _ h9)) dl⟩
  · rintro σ H' ⟨y8, y9, y10, y11, t, rfl, e3, d3⟩
    walk_at "go"
    exact q _ _ (e1.trans (e2.trans e3)) d3

abbrev s__law_word_of : Stmt := topS 33
abbrev N__law_word_of : List Str := ["_law_e", "_law_words_here"]
abbrev P__law_word_of : List Str := ["_law_e"]
theorem sc__law_word_of : FnScope N__law_word_of P__law_word_of (defScope s__law_word_of) := ⟨rfl, rfl, rfl, by decide +kernel, rfl, by decide +kernel, by decide +kernel⟩
theorem d__law_word_of {eS eV eP eN : Addr} (Y : Er K mg eS eV eP eN) (F : FunAt K mg "_law_word_of" s__law_word_of P__law_word_of) (Z : Bl mg) : DefP P w K mg base 1 "_law_word_of" P__law_word_of (sp_word_of eV eP eN) := by
  refine F.okP sc__law_word_of (fun a D vs H Q E h => ?_) (fun f cdv A outer s H vs Q p D hz hf hr h => ?_)
  · obtain ⟨rfl, _⟩ := h
    rfl
  obtain ⟨rfl, ek, rfl, q⟩ := h
  have C : ExcC K (ek.at eV eP eN) := by
    cases ek
    · exact Y.c_NoValue
    · exact Y.c_NotPlain
    · exact Y.c_NoNote
  refine ⟨_, (pss_cons (ps_set (i := 1) sc__law_word_of.nd rfl (Or.inl rfl) (pe_lst pa_nil))
        (pss_cons (ps_if (pt_val (pe_callB (call_isP (oe := p.2) List.mem_cons_self C hz hf) (by rfl) Z.isinstance (by decide +kernel) (pa_cons (pv 0) (pa_cons (pe_glob (v := .ref _) rfl Y.g_NoValue rfl) pa_nil))))
          (pss_one (ps_expr (pe_bm PySem.F.plainAttrs_list PySem.F.slot_list_append PySem.F.type_list_append mt_append (pv 1) (pa_cons pe_str pa_nil)))) pss_nil)
        (pss_cons (ps_if (pt_val (pe_callB (call_isP (oe := p.2) List.mem_cons_self C hz hf) (by rfl) Z.isinstance (by decide +kernel) (pa_cons (pv 0) (pa_cons (pe_glob (v := .ref _) rfl Y.g_NotPlain rfl) pa_nil))))
          (pss_one (ps_expr (pe_bm PySem.F.plainAttrs_list PySem.F.slot_list_append PySem.F.type_list_append mt_append (pv 1) (pa_cons pe_str pa_nil)))) pss_nil)
        (pss_cons (ps_if (pt_val (pe_callB (call_isP (oe := p.2) List.mem_cons_self C hz hf) (by rfl) Z.isinstance (by decide +kernel) (pa_cons (pv 0) (pa_cons (pe_glob (v := .ref _) rfl Y.g_NoNote rfl) pa_nil))))
          (pss_one (ps_expr (pe_bm PySem.F.plainAttrs_list PySem.F.slot_list_append PySem.F.type_list_append mt_append (pv 1) (pa_cons pe_str pa_nil)))) pss_nil)
        (pss_cons (ps_if (pt_not (pt_val (pe_callB (call_isP (oe := p.2) List.mem_cons_self C hz hf) (by rfl) Z.isinstance (by decide +kernel) (pa_cons (pv 0) (pa_cons (pe_bltn (v := .ty "ValueError") rfl Z.ValueError (by decide +kernel) rfl) pa_nil)))))
          (pss_one (ps_expr (pe_bm PySem.F.plainAttrs_list PySem.F.slot_list_append PySem.F.type_list_append mt_append (pv 1) (pa_cons pe_str pa_nil)))) pss_nil)
        (pss_one (ps_ret (pe_joinK K pe_str (pv 1))))))))), ?_⟩
  walk_at "go"
  refine ⟨XS.sz (by simp), fun l hl => ?_⟩
  obtain ⟨e1, h1⟩ := XS.newly (o := HO.lst _) hl
  generalize hH1 : upd _ l _ = H1 at e1 h1 ⊢
  walk_at "go"
  cases ek
  · refine XS.x_isE Y.i_VV ?_
    walk_at "go"
    refine XS.x_tyL' (XS.x_tyL h1) ?_
    walk_at "go"
    refine XS.x_app h1 (szl (by simp)) ?_
    walk_at "go"
    refine XS.x_isE Y.i_VP ?_
    walk_at "go"
    refine XS.x_isE Y.i_VN ?_
    walk_at "go"
    refine XS.x_isET Y.i_V ?_
    walk_at "go"
    refine ⟨⟨_, rfl⟩, ?_⟩
    walk_at "go"
    refine ⟨_, l, ["no value"], rfl, rfl, .inl (SqL.of upd_same), by decide +kernel, ?_⟩
    rw [show Txt.join ("" : Str) ["no value"] = "no value" by decide +kernel]
    exact q _ (XS.same_mut e1 hl)
  · refine XS.x_isE Y.i_PV ?_
    walk_at "go"
    refine XS.x_isE Y.i_PP ?_
    walk_at "go"
    refine XS.x_tyL' (XS.x_tyL h1) ?_
    walk_at "go"
    refine XS.x_app h1 (szl (by simp)) ?_
    walk_at "go"
    refine XS.x_isE Y.i_PN ?_
    walk_at "go"
    refine XS.x_isET Y.i_P ?_
    walk_at "go"
    refine ⟨⟨_, rfl⟩, ?_⟩
    walk_at "go"
    refine ⟨_, l, ["not plain"], rfl, rfl, .inl (SqL.of upd_same), by decide +kernel, ?_⟩
    rw [show Txt.join ("" : Str) ["not plain"] = "not plain" by decide +kernel]
    exact q _ (XS.same_mut e1 hl)
  · refine XS.x_isE Y.i_NV ?_
    walk_at "go"
    refine XS.x_isE Y.i_NP ?_
    walk_at "go"
    refine XS.x_isE Y.i_NN ?_
    walk_at "go"
    refine XS.x_tyL' (XS.x_tyL h1) ?_
    walk_at "go"
    refine XS.x_app h1 (szl (by simp)) ?_
    walk_at "go"
    refine XS.x_isET Y.i_N ?_
    walk_at "go"
    refine ⟨⟨_, rfl⟩, ?_⟩
    walk_at "go"
    refine ⟨_, l, ["no note"], rfl, rfl, .inl (SqL.of upd_same), by decide +kernel, ?_⟩
    rw [show Txt.join ("" : Str) ["no note"] = "no note" by decide +kernel]
    exact q _ (XS.same_mut e1 hl)

abbrev s__law_big_by : Stmt := topS 34
abbrev N__law_big_by : List Str := ["_law_cell", "_law_number_here", "_law_mixed", "_law_k"]
abbrev P__law_big_by : List Str := ["_law_cell"]
theorem sc__law_big_by : FnScope N__law_big_by P__law_big_by (defScope s__law_big_by) := ⟨rfl, rfl, rfl, by decide +kernel, rfl, by decide +kernel, by decide +kernel⟩
theorem d__law_big_by (F : FunAt K mg "_law_big_by" s__law_big_by P__law_big_by) (Z : Bl mg) : DefAt P w K mg base CX0 1 "_law_big_by" P__law_big_by sp_big_by := by
  refine F.ok sc__law_big_by (fun vs H Q E h => ?_) (fun f cdv A outer s H vs Q E hr h => ?_)
  · obtain ⟨i, rfl, _⟩ := h
    rfl
  obtain ⟨c, rfl, q⟩ := h
  refine ⟨_, (pss_cons (ps_if (pt_cmpR op_gt (pe_op op_mod (pv 0) pe_int) pe_int (nomark _))
          (pss_one (ps_ret (pe_op op_sub (pe_op op_mod (pe_op op_fdiv (pv 0) pe_int) pe_int) pe_int))) pss_nil)
        (pss_cons (ps_set (i := 1) sc__law_big_by.nd rfl (Or.inl rfl) pe_int)
        (pss_cons (ps_set (i := 2) sc__law_big_by.nd rfl (Or.inl rfl) (pv 0))
        (pss_cons (ps_for PassesOwn.never rfl (pi_range1 rfl Z.range (pa_cons (pe_op op_add pe_int (pe_op op_mod (pe_op op_fdiv (pv 0) pe_int) pe_int)) pa_nil)) (pg_name (i := 3) sc__law_big_by.nd rfl (Or.inl rfl))
          (pss_cons (ps_set (i := 2) sc__law_big_by.nd rfl (Or.inl rfl) (pe_op op_mod (pe_op op_add (pe_op op_mul (pv 2) pe_int) pe_int) pe_int))
        (pss_one (ps_set (i := 1) sc__law_big_by.nd rfl (Or.inl rfl) (pe_op op_add (pe_op op_mul (pv 1) pe_int) (pe_op op_mod (pe_op op_fdiv (pv 2) pe_int) pe_int))))))
        (pss_one (ps_ret (pe_op op_mul (pe_ix (ix_listK K) (pe_lst (pa_cons pe_int (pa_cons (pe_un un_neg pe_int) pa_nil))) (pe_op op_mod (pe_op op_fdiv (pv 0) pe_int) pe_int) (fun _ _ => rfl)) (pv 1)))))))), ?_⟩
  walk_at "go"
  unfold bigBy at q
  refine XS.x_d (fun e => ?_) (fun e => ?_)
  · rw [if_pos e] at q
    walk_at "go"
    exact q _ (Same.refl _)
  · rw [if_neg e] at q
    walk_at "go"
    have h3 : 0 ≤ c / 8 % 60 := Int.emod_nonneg _ (by decide)
    have h4 : c / 8 % 60 < 60 := Int.emod_lt_of_pos _ (by decide)
    refine XS.x_forR1 (by omega) (fun i σ H' => ∃ y : Option V, σ = [some (.int c), some (.int (bigRun i (0, c)).1), some (.int (bigRun i (0, c)).2), y] ∧ H' = H) ⟨none, rfl, rfl⟩ ?_ ?_
    · rintro i σ H' hi ⟨y, rfl, rfl⟩
      walk_at "go"
      exact ⟨_, rfl, rfl⟩
    · rintro σ H' ⟨y, rfl, rfl⟩
      walk_at "go"
      refine ⟨(by show 2 ≤ sizeLine; decide), fun l hl => ?_⟩
      have e2 := XS.same_upd (o := .lst [.int 1, .int (-1)]) hl
      walk_at "go"
      have h5 : 0 ≤ c / 4 % 2 := Int.emod_nonneg _ (by decide)
      have h6 : c / 4 % 2 < 2 := Int.emod_lt_of_pos _ (by decide)
      by_cases z : c / 4 % 2 = 0
      · rw [if_pos z] at q
        rw [z]
        refine XS.x_ixL (SqL.of upd_same) (atI_get (i := 0) rfl) ?_
        walk_at "go"
        exact q _ e2
      · rw [if_neg z] at q
        rw [show c / 4 % 2 = 1 by omega]
        refine XS.x_ixL (SqL.of upd_same) (atI_get (i := 1) rfl) ?_
        walk_at "go"
        exact q _ e2

abbrev s__law_bound_by : Stmt := topS 36
abbrev N__law_bound_by : List Str := ["_law_cell", "_law_statement", "_law_names", "_law_inner", "_law_way"]
abbrev P__law_bound_by : List Str := ["_law_cell", "_law_statement", "_law_names"]
theorem sc__law_bound_by : FnScope N__law_bound_by P__law_bound_by (defScope s__law_bound_by) := ⟨rfl, rfl, rfl, by decide +kernel, rfl, by decide +kernel, by decide +kernel⟩
theorem d__law_bound_by (F : FunAt K mg "_law_bound_by" s__law_bound_by P__law_bound_by) (Z : Bl mg) : DefAt P w K mg base CX0 1 "_law_bound_by" P__law_bound_by (sp_bound_by K) := by
  refine F.ok sc__law_bound_by (fun vs H Q E h => ?_) (fun f cdv A outer s H vs Q E hr h => ?_)
  · obtain ⟨_, _, _, _, _, rfl, _⟩ := h
    rfl
  obtain ⟨c, v, nl, A1, names, rfl, hA, hN, hL, q⟩ := h
  refine ⟨_, (pss_cons (ps_set (i := 3) sc__law_bound_by.nd rfl (Or.inl rfl) (pe_tup (pa_cons (pe_ix (ix_listK K) (pe_lst (pa_cons pe_str (pa_cons pe_str pa_nil))) (pe_op op_mod (pv 0) pe_int) (fun _ _ => rfl)) (pa_cons (pe_ix (ix_listK K) (pv 2) (pe_op op_mod (pe_op op_fdiv (pv 0) pe_int) pe_int) (fun _ _ => rfl)) (pa_cons (pv 1) pa_nil)))))
        (pss_cons (ps_set (i := 4) sc__law_bound_by.nd rfl (Or.inl rfl) (pe_op op_mod (pe_op op_fdiv (pv 0) pe_int) pe_int))
        (pss_cons (ps_if (pt_cmpR op_eq (pv 4) pe_int (nomark _))
          (pss_one (ps_ret (pv 3))) pss_nil)
        (pss_cons (ps_if (pt_cmpR op_eq (pv 4) pe_int (nomark _))
          (pss_one (ps_ret (pe_tup (pa_cons pe_str (pa_cons (pv 3) pa_nil))))) pss_nil)
        (pss_cons (ps_if (pt_cmpR op_eq (pv 4) pe_int (nomark _))
          (pss_one (ps_ret (pe_tup (pa_cons pe_str (pa_cons (pe_tup (pa_cons (pv 1) (pa_cons (pv 3) pa_nil))) pa_nil))))) pss_nil)
        (pss_one (ps_ret (pe_tup (pa_cons pe_str (pa_cons (pe_tup (pa_cons (pe_tup (pa_cons pe_str (pa_cons (pe_tup pa_nil) pa_nil))) (pa_cons (pe_tup (pa_cons pe_str (pa_cons (pe_tup (pa_cons pe_str (pa_cons (pe_tup (pa_cons (pv 3) (pa_cons (pv 1) pa_nil))) pa_nil))) pa_nil))) pa_nil))) pa_nil)))))))))), ?_⟩
  walk_at "go"
  refine ⟨XS.sz (by simp), fun l3 hl3 => ?_⟩
  obtain ⟨e3, h3⟩ := XS.newly (o := HO.lst _) hl3
  generalize hGH3 : upd _ l3 _ = H3 at e3 h3 ⊢
  walk_at "go"
  have hb0 := Int.emod_nonneg c (by decide : (2 : Int) ≠ 0)
  have hb1 := Int.emod_lt_of_pos c (by decide : (0 : Int) < 2)
  obtain ⟨w1, hwa, hwe⟩ : ∃ w1 : Str, atI [V.str "some", V.str "all"] (c % 2) = some (.str w1) ∧ w1 = bndW (decide (c % 2 = 1)) := by
    rcases (by omega : c % 2 = 0 ∨ c % 2 = 1) with e | e <;> rw [e] <;> exact ⟨_, rfl, rfl⟩
  refine XS.x_ixL (SqL.of h3) hwa ?_
  walk_at "go"
  have hn0 := Int.emod_nonneg (c / 2) (by decide : (4 : Int) ≠ 0)
  have hn1 := Int.emod_lt_of_pos (c / 2) (by decide : (0 : Int) < 4)
  obtain ⟨x, hx, hxe⟩ : ∃ x, atI (names.map V.str) (c / 2 % 4) = some (.str x) ∧ x = names.getD (c / 2 % 4).toNat "" := by
    generalize c / 2 % 4 = k at hn0 hn1
    obtain ⟨j, rfl⟩ := Int.eq_ofNat_of_zero_le hn0
    have hj : j < names.length := by omega
    refine ⟨names[j], atI_nat (by rw [List.getElem?_map, List.getElem?_eq_getElem hj]; rfl), ?_⟩
    show names[j] = names.getD ((j : Int)).toNat ""
    rw [Int.toNat_natCast, List.getD_eq_getElem?_getD, List.getElem?_eq_getElem hj]
    rfl
  refine XS.x_ixL (e3.seq hN) hx ?_
  walk_at "go"
  refine ⟨XS.sz (by simp), fun t4 ht4 => ?_⟩
  obtain ⟨e4, h4⟩ := XS.newly (o := HO.tup _) ht4
  generalize hGH4 : upd _ t4 _ = H4 at e4 h4 ⊢
  walk_at "go"
  have e34 := e3.trans e4
  have d4 := Dp.same e34 _ _ hA
  have dI : Dp K H4 (.ref t4) (toD (Stm.bnd (decide (c % 2 = 1)) (names.getD (c / 2 % 4).toNat "") A1)) := by
    rw [← hxe]
    exact XS.Dp.mkBnd (SqT.of h4) hwe d4
  unfold boundBy at q
  dsimp only at q
  generalize Stm.bnd (decide (c % 2 = 1)) (names.getD (c / 2 % 4).toNat "") A1 = E1 at q dI
  refine XS.x_d (fun e => ?_) (fun e => ?_)
  · rw [if_pos e] at q
    walk_at "go"
    exact q _ _ e34 dI
  rw [if_neg e] at q
  walk_at "go"
  refine XS.x_d (fun e => ?_) (fun e => ?_)
  · rw [if_pos e] at q
    walk_at "go"
    refine ⟨XS.sz (by simp), fun t5 ht5 => ?_⟩
    obtain ⟨e5, h5⟩ := XS.newly (o := HO.tup _) ht5
    generalize hGH5 : upd _ t5 _ = H5 at e5 h5 ⊢
    walk_at "go"
    walk_at "go"
    have ek := e5
    exact q t5 _ (e34.trans ek) (XS.Dp.mkNeg (SqT.of h5) (Dp.same ek _ _ dI))
  rw [if_neg e] at q
  walk_at "go"
  refine XS.x_d (fun e => ?_) (fun e => ?_)
  · rw [if_pos e] at q
    walk_at "go"
    refine ⟨XS.sz (by simp), fun t5 ht5 => ?_⟩
    obtain ⟨e5, h5⟩ := XS.newly (o := HO.tup _) ht5
    generalize hGH5 : upd _ t5 _ = H5 at e5 h5 ⊢
    walk_at "go"
    refine ⟨XS.sz (by simp), fun t6 ht6 => ?_⟩
    obtain ⟨e6, h6⟩ := XS.newly (o := HO.tup _) ht6
    generalize hGH6 : upd _ t6 _ = H6 at e6 h6 ⊢
    walk_at "go"
    walk_at "go"
    have ek := (e5.trans e6)
    exact q t6 _ (e34.trans ek) (XS.Dp.mkCon (o := true) (l := [A1, E1]) (SqT.of h6) rfl (e6.seqT (SqT.of h5)) (.cons (Dp.same ek _ _ d4) (.cons (Dp.same ek _ _ dI) .nil)))
  · rw [if_neg e] at q
    walk_at "go"
    refine ⟨XS.sz (by simp), fun t5 ht5 => ?_⟩
    obtain ⟨e5, h5⟩ := XS.newly (o := HO.tup _) ht5
    generalize hGH5 : upd _ t5 _ = H5 at e5 h5 ⊢
    walk_at "go"
    refine ⟨XS.sz (by simp), fun t6 ht6 => ?_⟩
    obtain ⟨e6, h6⟩ := XS.newly (o := HO.tup _) ht6
    generalize hGH6 : upd _ t6 _ = H6 at e6 h6 ⊢
    walk_at "go"
    refine ⟨XS.sz (by simp), fun t7 ht7 => ?_⟩
    obtain ⟨e7, h7⟩ := XS.newly (o := HO.tup _) ht7
    generalize hGH7 : upd _ t7 _ = H7 at e7 h7 ⊢
    walk_at "go"
    refine ⟨XS.sz (by simp), fun t8 ht8 => ?_⟩
    obtain ⟨e8, h8⟩ := XS.newly (o := HO.tup _) ht8
    generalize hGH8 : upd _ t8 _ = H8 at e8 h8 ⊢
    walk_at "go"
    refine ⟨XS.sz (by simp), fun t9 ht9 => ?_⟩
    obtain ⟨e9, h9⟩ := XS.newly (o := HO.tup _) ht9
    generalize hGH9 : upd _ t9 _ = H9 at e9 h9 ⊢
    walk_at "go"
    refine ⟨XS.sz (by simp), fun t10 ht10 => ?_⟩
    obtain ⟨e10, h10⟩ := XS.newly (o := HO.tup _) ht10
    generalize hGH10 : upd _ t10 _ = H10 at e10 h10 ⊢
    walk_at "go"
    refine ⟨XS.sz (by simp), fun t11 ht11 => ?_⟩
    obtain ⟨e11, h11⟩ := XS.newly (o := HO.tup _) ht11
    generalize hGH11 : upd _ t11 _ = H11 at e11 h11 ⊢
    walk_at "go"
    walk_at "go"
    have ek := (e5.trans (e6.trans (e7.trans (e8.trans (e9.trans (e10.trans e11))))))
    exact q t11 _ (e34.trans ek) (XS.Dp.mkCon (o := false) (l := [.con true [], .neg (.con false [E1, A1])]) (SqT.of h11) rfl (e11.seqT (SqT.of h10)) (.cons (XS.Dp.mkCon (o := true) (l := []) ((e7.trans (e8.trans (e9.trans (e10.trans e11)))).seqT (SqT.of h6)) rfl ((e6.trans (e7.trans (e8.trans (e9.trans (e10.trans e11))))).seqT (SqT.of h5)) .nil) (.cons (XS.Dp.mkNeg ((e10.trans e11).seqT (SqT.of h9)) (XS.Dp.mkCon (o := false) (l := [E1, A1]) ((e9.trans (e10.trans e11)).seqT (SqT.of h8)) rfl ((e8.trans (e9.trans (e10.trans e11))).seqT (SqT.of h7)) (.cons (Dp.same ek _ _ dI) (.cons (Dp.same ek _ _ d4) .nil)))) .nil)))

abbrev s__word : Stmt := topS 23
abbrev N__word : List Str := ["words", "at"]
abbrev P__word : List Str := ["words", "at"]
theorem sc__word : FnScope N__word P__word (defScope s__word) := ⟨rfl, rfl, rfl, by decide +kernel, rfl, by decide +kernel, by decide +kernel⟩
theorem d__word {eS eV eP eN : Addr} (Y : Er K mg eS eV eP eN) (F : FunAt K mg "_word" s__word P__word) (Z : Bl mg) : DefAt P w K mg base (L2.CX P w) 1 "_word" P__word (sp_word K eN) := by
  refine F.okX sc__word (fun vs H Q E h => ?_) (fun f cdv A outer s H vs Q E hr h => ?_)
  · obtain ⟨_, _, _, rfl, _⟩ := h
    rfl
  obtain ⟨p, ws, i, rfl, hw, hi, q1, q2⟩ := h
  refine ⟨_, (pss_cons (ps_if (pt_cmpR op_ge (pv 1) (pe_callB (call_lenK K) (by rfl) Z.len PySem.boot_len (pa_cons (pv 0) pa_nil)) (nomark _))
          (pss_one (ps_raise rfl (takes_of rfl rfl rfl rfl) (pmk_ownA PySem.F.excBase_ValueError Y.x_NoNote Y.g_NoNote Y.k_NoNote (raises_own Y.b_NoNote Y.t_NoNote) rfl (pa_cons pe_str pa_nil)))) pss_nil)
        (pss_one (ps_ret (pe_ix (ix_listK K) (pv 0) (pv 1) (fun _ _ => rfl))))), ?_⟩
  walk_at "go"
  refine XS.x_lenL hw.l ?_
  rw [List.length_map]
  walk_at "go"
  refine XS.x_d (fun c => ?_) (fun c => ?_)
  · walk_at "go"
    exact ⟨XS.sz (by simp), q2 (by omega)⟩
  · walk_at "go"
    have hx : ws[i]? = some ws[i] := List.getElem?_eq_getElem (by omega)
    refine XS.x_ixL hw.l (XS.atI_get (i := i) (v := .str ws[i]) (by rw [List.getElem?_map, hx]; rfl)) ?_
    exact q1 _ hx
abbrev s__number : Stmt := topS 24
abbrev N__number : List Str := ["word", "figures", "sign"]
abbrev P__number : List Str := ["word"]
theorem sc__number : FnScope N__number P__number (defScope s__number) := ⟨rfl, rfl, rfl, by decide +kernel, rfl, by decide +kernel, by decide +kernel⟩
theorem d__number {eS eV eP eN : Addr} (Y : Er K mg eS eV eP eN) (C : Cw mg) (F : FunAt K mg "_number" s__number P__number) (Z : Bl mg) : DefAt P w K mg base (L2.CX P w) 1 "_number" P__number (sp_number eN) := by
  obtain ⟨tF, Cs_FIGURES⟩ := C.FIGURES
  obtain ⟨tM, Ci_MF⟩ := C.MOST_FIGURES
  refine F.okX sc__number (fun vs H Q E h => ?_) (fun f cdv A outer s H vs Q E hr h => ?_)
  · obtain ⟨_, rfl, _⟩ := h
    rfl
  obtain ⟨x, rfl, hx, q1, q2⟩ := h
  refine ⟨_, (Evl.pss_cut (ps_set (i := 1) sc__number.nd rfl (Or.inl rfl) (pe_ifExp (pt_val (pe_m1 PySem.F.slot_str_startswith PySem.F.type_str_startswith mt_startswith (pv 0) pe_str)) (pe_slice sl_str (pv 0) (po_some pe_int) po_none) (pv 0)))
        (pss_cons (ps_if (pt_not (pt_chain op_le op_le pe_int (pe_callB call_len_str (by rfl) Z.len PySem.boot_len (pa_cons (pv 1) pa_nil)) (pe_glob (v := .int _) rfl Ci_MF ⟨_, rfl⟩)))
          (pss_one (ps_raise rfl (takes_of rfl rfl rfl rfl) (pmk_ownA PySem.F.excBase_ValueError Y.x_NoNote Y.g_NoNote Y.k_NoNote (raises_own Y.b_NoNote Y.t_NoNote) rfl (pa_cons pe_str pa_nil)))) pss_nil)
        (pss_cons (ps_for (passes_of rfl) rfl (pi_str (pv 1)) (pg_name (i := 2) sc__number.nd rfl (Or.inl rfl))
          (pss_one (ps_if (pt_cmpR op_notIn_sign (pv 2) (pe_glob (v := .str _) rfl Cs_FIGURES ⟨_, rfl⟩) (by rfl))
          (pss_one (ps_raise rfl (takes_of rfl rfl rfl rfl) (pmk_ownA PySem.F.excBase_ValueError Y.x_NoNote Y.g_NoNote Y.k_NoNote (raises_own Y.b_NoNote Y.t_NoNote) rfl (pa_cons pe_str pa_nil)))) pss_nil)))
        (pss_cons (ps_if (PW.pt (pw_and (pt_val (pe_m1 PySem.F.slot_str_startswith PySem.F.type_str_startswith mt_startswith (pv 1) pe_str)) (pw_and1 (pt_cmpR op_ne (pv 0) pe_str (nomark _)))))
          (pss_one (ps_raise rfl (takes_of rfl rfl rfl rfl) (pmk_ownA PySem.F.excBase_ValueError Y.x_NoNote Y.g_NoNote Y.k_NoNote (raises_own Y.b_NoNote Y.t_NoNote) rfl (pa_cons pe_str pa_nil)))) pss_nil)
        (pss_one (ps_ret (pe_callTy call_int_str (by rfl) Z.int (by decide +kernel) (pa_cons (pv 0) pa_nil)))))))), ?_⟩
  refine XS.x_cut (fun σ H' => ∃ f : Str, σ = [some (.str x), some (.str f), none] ∧ H' = H ∧ cs f = figs (cs x) ∧ f.length ≤ WL) ?_ ?_
  · walk_at "go"
    refine ⟨⟨_, rfl⟩, ?_⟩
    walk_at "go"
    refine ⟨x, "-", rfl, rfl, _, rfl, ?_⟩
    rw [sw (x := x) (y := "-") (c := 45) (by decide +kernel)]
    rcases figs_cases (cs x) with ⟨r, e, er⟩ | ⟨e, no⟩
    · rw [if_pos (decide_eq_true (by rw [e]; rfl))]
      walk_at "go"
      refine x_slS hx ?_
      walk_at "go"
      exact ⟨_, rfl, rfl, by rw [show (1 : Int) = ((1 : Nat) : Int) from rfl, cs_from, er, e]; rfl, Nat.le_trans (cutS_length _ _ _) hx⟩
    · rw [if_neg (by
        rw [decide_eq_true_eq]
        intro h
        cases e2 : cs x with
        | nil => rw [e2] at h; cases h
        | cons a r => rw [e2] at h; cases h; exact no r e2)]
      walk_at "go"
      exact ⟨x, rfl, rfl, e.symm, hx⟩
  rintro σ H' ⟨f, rfl, rfl, ef, hf⟩
  have bad : numOk (cs x) = false → E (.ref eN) none H' := fun h => q2 (num_none h) h
  walk_at "go"
  refine x_chI (i := 1) (m := (f.length : Int)) (j := 60) ?_ ?_ ?_ ?_
  · intro K' k
    exact k
  · intro K' k
    walk_at "go"
    exact x_lenS hf k
  · intro K' k
    walk_at "go"
    exact k
  walk_at "go"
  have hlen : (cs f).length = f.length := cs_len f
  by_cases h1 : 1 ≤ (figs (cs x)).length ∧ (figs (cs x)).length ≤ 60
  rotate_left
  · refine XS.x_yes (by rw [← Bool.decide_and, Bool.not_eq_true', decide_eq_false_iff_not, ← cs_len, ef]; omega) ?_
    walk_at "go"
    exact ⟨XS.sz (by simp), bad (by
      unfold numOk
      rw [← Bool.decide_and, decide_eq_false h1]
      rfl)⟩
  refine XS.x_no (by rw [← Bool.decide_and, Bool.not_eq_false', decide_eq_true_eq, ← cs_len, ef]; omega) ?_
  walk_at "go"
  refine x_forS (fun i σ H2 => ∃ y2 : Option V, σ = [some (.str x), some (.str f), y2] ∧ H2 = H' ∧ ((figs (cs x)).take i).all dig = true) ⟨none, rfl, rfl, rfl⟩ ?_ ?_
  · rintro i c σ H2 hi ⟨y2, rfl, rfl, al⟩
    rw [ef] at hi
    walk_at "go"
    refine ⟨c, "0123456789", rfl, rfl, ?_⟩
    rw [dig_mem]
    refine ⟨_, rfl, ?_⟩
    cases hc : dig c with
    | false =>
      refine XS.x_yes rfl ?_
      walk_at "go"
      refine ⟨XS.sz (by simp), bad ?_⟩
      unfold numOk
      rw [all_not hi hc, Bool.and_false]
      rfl
    | true =>
      refine XS.x_no rfl ?_
      walk_at "go"
      exact ⟨_, rfl, rfl, all_more al hi hc⟩
  · rintro σ H2 ⟨y2, rfl, rfl, al⟩
    rw [ef, List.take_length] at al
    walk_at "go"
    refine ⟨⟨_, rfl⟩, ?_⟩
    walk_at "go"
    refine ⟨f, "0", rfl, rfl, _, rfl, ?_⟩
    rw [sw (x := f) (y := "0") (c := 48) (by decide +kernel), ef]
    have fin : numOk (cs x) = true → ∃ a n, [V.str x] = [.str a] ∧ intText? a = some n ∧ a.length ≤ 640 ∧ Q (.int n) H2 := fun h => by
      obtain ⟨n, h1, h2⟩ := num_some h
      exact ⟨x, n, rfl, h1, by have := num_len h; omega, q1 n h2 h⟩
    have ok : numOk (cs x) = !(decide ((figs (cs x)).head? = some 48) && decide (cs x ≠ [48])) := by
      unfold numOk
      rw [al, ← Bool.decide_and, decide_eq_true h1]
      rfl
    by_cases h48 : (figs (cs x)).head? = some 48
    · rw [if_pos (decide_eq_true h48)]
      walk_at "go"
      refine XS.x_dn (fun c => ?_) (fun c => ?_)
      · walk_at "go"
        refine ⟨XS.sz (by simp), bad ?_⟩
        rw [ok, decide_eq_true h48, decide_eq_true (show cs x ≠ [48] from fun e => c (str_eq0.mpr e))]
        rfl
      · walk_at "go"
        exact fin (by rw [ok, decide_eq_false (show ¬ cs x ≠ [48] from fun k => k (str_eq0.mp c)), Bool.and_false]; rfl)
    · rw [if_neg (by rw [decide_eq_false h48]; decide)]
      walk_at "go"
      exact fin (by rw [ok, decide_eq_false h48]; rfl)
abbrev s__name : Stmt := topS 25
abbrev N__name : List Str := ["word", "sign"]
abbrev P__name : List Str := ["word"]
theorem sc__name : FnScope N__name P__name (defScope s__name) := ⟨rfl, rfl, rfl, by decide +kernel, rfl, by decide +kernel, by decide +kernel⟩
theorem d__name {eS eV eP eN : Addr} (Y : Er K mg eS eV eP eN) (C : Cw mg) (F : FunAt K mg "_name" s__name P__name) (Z : Bl mg) : DefAt P w K mg base (L2.CX P w) 1 "_name" P__name (sp_name eN) := by
  obtain ⟨tF, Cs_LETTERS⟩ := C.LETTERS
  obtain ⟨tM, Ci_ML⟩ := C.MOST_LETTERS
  refine F.okX sc__name (fun vs H Q E h => ?_) (fun f cdv A outer s H vs Q E hr h => ?_)
  · obtain ⟨_, rfl, _⟩ := h
    rfl
  obtain ⟨x, rfl, hx, q1, q2⟩ := h
  refine ⟨_, (pss_cons (ps_if (pt_not (pt_chain op_le op_le pe_int (pe_callB call_len_str (by rfl) Z.len PySem.boot_len (pa_cons (pv 0) pa_nil)) (pe_glob (v := .int _) rfl Ci_ML ⟨_, rfl⟩)))
          (pss_one (ps_raise rfl (takes_of rfl rfl rfl rfl) (pmk_ownA PySem.F.excBase_ValueError Y.x_NoNote Y.g_NoNote Y.k_NoNote (raises_own Y.b_NoNote Y.t_NoNote) rfl (pa_cons pe_str pa_nil)))) pss_nil)
        (pss_cons (ps_for (passes_of rfl) rfl (pi_str (pv 0)) (pg_name (i := 1) sc__name.nd rfl (Or.inl rfl))
          (pss_one (ps_if (pt_cmpR op_notIn_sign (pv 1) (pe_glob (v := .str _) rfl Cs_LETTERS ⟨_, rfl⟩) (by rfl))
          (pss_one (ps_raise rfl (takes_of rfl rfl rfl rfl) (pmk_ownA PySem.F.excBase_ValueError Y.x_NoNote Y.g_NoNote Y.k_NoNote (raises_own Y.b_NoNote Y.t_NoNote) rfl (pa_cons pe_str pa_nil)))) pss_nil)))
        (pss_one (ps_ret (pv 0))))), ?_⟩
  walk_at "go"
  refine x_chI (i := 1) (m := (x.length : Int)) (j := 8) ?_ ?_ ?_ ?_
  · intro K' k
    exact k
  · intro K' k
    walk_at "go"
    exact x_lenS hx k
  · intro K' k
    walk_at "go"
    exact k
  walk_at "go"
  have ok : nameOk (cs x) = (decide (1 ≤ (cs x).length ∧ (cs x).length ≤ 8) && (cs x).all low) := by
    unfold nameOk
    rw [← Bool.decide_and]
  by_cases h1 : 1 ≤ (cs x).length ∧ (cs x).length ≤ 8
  rotate_left
  · refine XS.x_yes (by rw [← Bool.decide_and, Bool.not_eq_true', decide_eq_false_iff_not, ← cs_len]; omega) ?_
    walk_at "go"
    exact ⟨XS.sz (by simp), q2 (by rw [ok, decide_eq_false h1]; rfl)⟩
  refine XS.x_no (by rw [← Bool.decide_and, Bool.not_eq_false', decide_eq_true_eq, ← cs_len]; omega) ?_
  walk_at "go"
  refine x_forS (fun i σ H2 => ∃ y2 : Option V, σ = [some (.str x), y2] ∧ H2 = H ∧ ((cs x).take i).all low = true) ⟨none, rfl, rfl, rfl⟩ ?_ ?_
  · rintro i c σ H2 hi ⟨y2, rfl, rfl, al⟩
    walk_at "go"
    refine ⟨c, "abcdefghijklmnopqrstuvwxyz", rfl, rfl, ?_⟩
    rw [low_mem]
    refine ⟨_, rfl, ?_⟩
    cases hc : low c with
    | false =>
      refine XS.x_yes rfl ?_
      walk_at "go"
      exact ⟨XS.sz (by simp), q2 (by rw [ok, all_not hi hc, Bool.and_false])⟩
    | true =>
      refine XS.x_no rfl ?_
      walk_at "go"
      exact ⟨_, rfl, rfl, all_more al hi hc⟩
  · rintro σ H2 ⟨y2, rfl, rfl, al⟩
    rw [List.take_length] at al
    walk_at "go"
    exact q1 (by rw [ok, al, decide_eq_true h1]; rfl)

abbrev s__read_sum : Stmt := topS 22
abbrev N__read_sum : List Str := ["words", "at", "number", "parts", "many", "name"]
abbrev P__read_sum : List Str := ["words", "at"]
theorem sc__read_sum : FnScope N__read_sum P__read_sum (defScope s__read_sum) := ⟨rfl, rfl, rfl, by decide +kernel, rfl, by decide +kernel, by decide +kernel⟩
theorem d__read_sum {eS eV eP eN : Addr} (Y : Er K mg eS eV eP eN) (F : FunAt K mg "_read_sum" s__read_sum P__read_sum) (Z : Bl mg) (D__word : DefAt P w K mg base (L2.CX P w) 1 "_word" P__word (sp_word K eN)) (D__number : DefAt P w K mg base (L2.CX P w) 1 "_number" P__number (sp_number eN))
    (D__name : DefAt P w K mg base (L2.CX P w) 1 "_name" P__name (sp_name eN)) : DefAt P w K mg base (L2.CX P w) 2 "_read_sum" P__read_sum (sp_rsum K eN) := by
  refine F.okX sc__read_sum (fun vs H Q E h => ?_) (fun f cdv A outer s H vs Q E hr h => ?_)
  · obtain ⟨_, _, _, rfl, _⟩ := h
    rfl
  obtain ⟨p, ws, i, rfl, hw, hi, q1, q2⟩ := h
  have hn := hw.n
  refine ⟨_, (pss_cons (ps_set (i := 2) sc__read_sum.nd rfl (Or.inl rfl) (pe_callX D__number (hr.mono (by first | exact Nat.le_refl _ | omega | decide)) rfl (fun σ => passAt (takes_of rfl rfl rfl rfl) σ) (pa_cons (pe_callX D__word (hr.mono (by first | exact Nat.le_refl _ | omega | decide)) rfl (fun σ => passAt (takes_of rfl rfl rfl rfl) σ) (pa_cons (pv 0) (pa_cons (pv 1) pa_nil))) pa_nil)))
        (pss_cons (ps_aug (i := 1) sc__read_sum.nd rfl (Or.inl rfl) pe_int ip_add)
        (pss_cons (ps_set (i := 3) sc__read_sum.nd rfl (Or.inl rfl) (pe_lst pa_nil))
        (pss_cons (ps_while (passes_of rfl) (pt_cmpR op_ne (pe_callX D__word (hr.mono (by first | exact Nat.le_refl _ | omega | decide)) rfl (fun σ => passAt (takes_of rfl rfl rfl rfl) σ) (pa_cons (pv 0) (pa_cons (pv 1) pa_nil))) pe_str (nomark _))
          (pss_cons (ps_set (i := 4) sc__read_sum.nd rfl (Or.inl rfl) (pe_callX D__number (hr.mono (by first | exact Nat.le_refl _ | omega | decide)) rfl (fun σ => passAt (takes_of rfl rfl rfl rfl) σ) (pa_cons (pe_ix (ix_listK K) (pv 0) (pv 1) (fun _ _ => rfl)) pa_nil)))
        (pss_cons (ps_set (i := 5) sc__read_sum.nd rfl (Or.inl rfl) (pe_callX D__name (hr.mono (by first | exact Nat.le_refl _ | omega | decide)) rfl (fun σ => passAt (takes_of rfl rfl rfl rfl) σ) (pa_cons (pe_callX D__word (hr.mono (by first | exact Nat.le_refl _ | omega | decide)) rfl (fun σ => passAt (takes_of rfl rfl rfl rfl) σ) (pa_cons (pv 0) (pa_cons (pe_op op_add (pv 1) pe_int) pa_nil))) pa_nil)))
        (pss_cons (ps_if (pt_cmpR op_eq (pv 4) pe_int (nomark _))
          (pss_one (ps_raise rfl (takes_of rfl rfl rfl rfl) (pmk_ownA PySem.F.excBase_ValueError Y.x_NoNote Y.g_NoNote Y.k_NoNote (raises_own Y.b_NoNote Y.t_NoNote) rfl (pa_cons pe_str pa_nil)))) pss_nil)
        (Evl.pss_cut (ps_if (PW.pt (pw_and (pt_truth (pv 3) (by intro _; rfl)) (pw_and1 (pt_cmpR op_ge_str (pe_ix (ix_tupK K) (pe_ix (ix_listK K) (pv 3) (pe_un un_neg pe_int) (fun _ _ => rfl)) pe_int (fun _ _ => rfl)) (pv 5) (nomark _)))))
          (pss_one (ps_raise rfl (takes_of rfl rfl rfl rfl) (pmk_ownA PySem.F.excBase_ValueError Y.x_NoNote Y.g_NoNote Y.k_NoNote (raises_own Y.b_NoNote Y.t_NoNote) rfl (pa_cons pe_str pa_nil)))) pss_nil)
        (pss_cons (ps_expr (pe_bm PySem.F.plainAttrs_list PySem.F.slot_list_append PySem.F.type_list_append mt_append (pv 3) (pa_cons (pe_tup (pa_cons (pv 5) (pa_cons (pv 4) pa_nil))) pa_nil)))
        (pss_one (ps_aug (i := 1) sc__read_sum.nd rfl (Or.inl rfl) pe_int ip_add))))))))
        (pss_one (ps_ret (pe_tup (pa_cons (pe_tup (pa_cons (pv 2) (pa_cons (pe_callTy (call_tupK K) (by rfl) Z.tuple (by decide +kernel) (pa_cons (pv 3) pa_nil)) pa_nil))) (pa_cons (pe_op op_add (pv 1) pe_int) pa_nil))))))))), ?_⟩
  walk_at "go"
  refine ⟨p, ws, i, rfl, hw, by omega, fun x hx => ?_, fun hl => q2 (by rw [drop_out hl]; rfl) H (Same.refl _)⟩
  rw [drop_at hx] at q1 q2
  walk_at "go"
  refine ⟨x, rfl, hw.w x (List.mem_of_getElem? hx), fun k hk _ => ?_, fun hk _ => q2 (pSum_num hk) H (Same.refl _)⟩
  rw [pSum_go hk] at q1 q2
  walk_at "go"
  refine ⟨_, rfl, ?_⟩
  walk_at "go"
  refine ⟨_, _, rfl, rfl, ?_⟩
  walk_at "go"
  refine ⟨XS.sz (by simp), fun l1 hl1 => ?_⟩
  obtain ⟨e1, k1⟩ := XS.newly (o := HO.lst _) hl1
  generalize hGH1 : upd _ l1 _ = H1 at e1 k1 ⊢
  walk_at "go"
  have sof : Sofar k ((pPs none (ws.drop (i + 1))).map fun (q : List Pr × List Str) => ((k, q.1), q.2)) [] (ws.drop (i + 1)) := rfl
  have hi' : i < ws.length := (List.getElem?_eq_some_iff.mp hx).1
  generalize hgot : ((pPs none (ws.drop (i + 1))).map fun (q : List Pr × List Str) => ((k, q.1), q.2)) = got at q1 q2 sof
  refine ⟨fun n σ H' => ∃ (j : Nat) (acc : List V) (ps : List Pr) (y4 y5 : Option V), σ = [some (.ref p), some (.int j), some (.int k), some (.ref l1), y4, y5] ∧ Same H H' ∧ H' l1 = some (.lst acc) ∧ DpAll K H' acc (ps.map prT) ∧ i < j ∧ j ≤ ws.length ∧ Sofar k got ps (ws.drop j) ∧ ps.length ≤ j ∧ n = ws.length - j,
    ⟨_, i + 1, [], [], none, none, rfl, e1, k1, .nil, by omega, by omega, sof, by simp, rfl⟩, ?_⟩
  rintro n σ H2 ⟨j, acc, ps, y4, y5, rfl, e2, k2, d2, hij, hj, sof, hps, rfl⟩
  have hw2 := hw.same e2
  have no : got = none → E (.ref eN) none H2 := fun h => q2 h H2 e2
  walk_at "go"
  refine ⟨p, ws, j, rfl, hw2, by omega, fun x2 hx2 => ?_, fun hl => no (by rw [sof, drop_out hl]; rfl)⟩
  have hj' : j < ws.length := (List.getElem?_eq_some_iff.mp hx2).1
  rw [drop_at hx2] at sof
  walk_at "go"
  refine XS.x_dn (fun c => ?_) (fun c => ?_)
  · refine ⟨fun σ' H' => ∃ (acc2 : List V) (ps2 : List Pr) (y4 y5 : Option V), σ' = [some (.ref p), some (.int (j + 2 : Nat)), some (.int k), some (.ref l1), y4, y5] ∧ Same H H' ∧ H' l1 = some (.lst acc2) ∧ DpAll K H' acc2 (ps2.map prT) ∧ j + 2 ≤ ws.length ∧ Sofar k got ps2 (ws.drop (j + 2)) ∧ ps2.length ≤ j + 2,
      fun σ' H' ⟨acc2, ps2, y4, y5, e, a1, a2, a3, a4, a5, a6⟩ => ⟨_, by omega, j + 2, acc2, ps2, y4, y5, e, a1, a2, a3, by omega, a4, a5, a6, rfl⟩, ?_⟩
    walk_at "go"
    refine XS.x_ixL hw2.l (XS.atI_get (i := j) (v := .str x2) (by rw [List.getElem?_map, hx2]; rfl)) ?_
    walk_at "go"
    refine ⟨x2, rfl, hw.w x2 (List.mem_of_getElem? hx2), fun m hm _ => ?_, fun hm _ => no (by rw [sof, pPs_num c hm]; rfl)⟩
    walk_at "go"
    refine ⟨p, ws, j + 1, rfl, hw2, by omega, fun x3 hx3 => ?_, fun hl => no (by rw [sof, drop_out hl, pPs_one c]; rfl)⟩
    have hj3 : j + 1 < ws.length := (List.getElem?_eq_some_iff.mp hx3).1
    rw [drop_at hx3] at sof
    have bad : ¬ (nameOk (cs x3) = true ∧ m ≠ 0 ∧ ∀ y, lastP ps = some y → slt y x3) → E (.ref eN) none H2 := fun h => no (by rw [sof, pPs_bad c hm h]; rfl)
    walk_at "go"
    refine ⟨x3, rfl, hw.w x3 (List.mem_of_getElem? hx3), fun hx3n => ?_, fun hx3n => bad fun h => by rw [hx3n] at h; cases h.1⟩
    walk_at "go"
    refine XS.x_d (fun c0 => ?_) (fun c0 => ?_)
    · walk_at "go"
      exact ⟨XS.sz (by simp), bad fun h => h.2.1 c0⟩
    walk_at "go"
    refine XS.x_cut (fun σ H' => σ = [some (.ref p), some (.int j), some (.int k), some (.ref l1), some (.int m), some (.str x3)] ∧ H' = H2 ∧ ∀ y, lastP ps = some y → slt y x3) ?_ ?_
    · walk_at "go"
      refine ⟨!acc.isEmpty, .inl ⟨acc, SqL.of k2, rfl⟩, ?_⟩
      rcases List.eq_nil_or_concat ps with rfl | ⟨ps0, q, rfl⟩
      · have e0 : acc = [] := by cases d2; rfl
        rw [e0]
        walk_at "go"
        exact ⟨rfl, rfl, fun y hy => by cases hy⟩
      · rw [List.concat_eq_append, List.map_append] at d2
        obtain ⟨hd, u, rfl, ud⟩ : ∃ hd u, acc = hd ++ [u] ∧ Dp K H2 u (prT q) := dpLast d2
        have e1 : (!(hd ++ [u]).isEmpty) = true := by cases hd <;> rfl
        rw [e1]
        walk_at "go"
        refine XS.x_ixL (SqL.of k2) XS.atI_last ?_
        obtain ⟨c3, rfl, hc3⟩ := ud.pair
        walk_at "go"
        refine XS.x_ixT hc3 (XS.atI_get (i := 0) rfl) ?_
        walk_at "go"
        refine ⟨_, _, rfl, rfl, ?_⟩
        have el : lastP (ps0.concat q) = some q.1 := by unfold lastP; simp
        have es : decide (q.1.cps.toList < x3.cps.toList) = decide (slt q.1 x3) := decide_eq_decide.mpr XS.slt_lt.symm
        rw [es]
        walk_at "go"
        refine XS.x_dn (fun cc => ?_) (fun cc => ?_)
        · walk_at "go"
          exact ⟨XS.sz (by simp), bad fun h => cc (h.2.2 _ el)⟩
        · walk_at "go"
          exact ⟨rfl, rfl, fun y hy => by rw [el] at hy; cases hy; exact cc⟩
    rintro σ H3 ⟨rfl, rfl, hl⟩
    walk_at "go"
    refine XS.x_tyL' (XS.x_tyL k2) ?_
    walk_at "go"
    refine ⟨XS.sz (by simp), fun t6 ht6 => ?_⟩
    obtain ⟨e6, k6⟩ := XS.newly (o := HO.tup _) ht6
    generalize hG6 : upd _ t6 _ = H6 at e6 k6 ⊢
    walk_at "go"
    have d6 := DpAll.same e6 _ _ d2
    have k26 := e6 _ _ k2
    have acl : acc.length ≤ WL := by
      have := d2.len
      rw [List.length_map] at this
      omega
    have kk := keeps_lst (ys := acc ++ [.ref t6]) k26
    refine XS.x_app k26 (Nat.lt_of_le_of_lt acl (by decide)) ?_
    refine ⟨_, rfl, ?_⟩
    walk_at "go"
    refine ⟨_, _, rfl, rfl, ?_⟩
    refine ⟨acc ++ [.ref t6], ps ++ [(x3, m)], _, _, rfl, XS.same_mut (e2.trans e6) hl1, upd_same, ?_, by omega, sof.more c hm hx3n c0 hl, by simp; omega⟩
    rw [List.map_append]
    refine (DpAll.keeps kk _ _ (fun d hd => ?_) d6).app (.one (Dp.keeps kk _ _ (im_pair (x3, m)) (Dp.mkPair (p := (x3, m)) (SqT.of k6))))
    obtain ⟨z, _, rfl⟩ := List.mem_map.mp hd
    exact im_pair z
  · subst c
    walk_at "go"
    refine XS.x_tupL (SqL.of k2) fun t6 H6 ht6 e6 k6 => ?_
    walk_at "go"
    refine ⟨XS.sz (by simp), fun t7 ht7 => ?_⟩
    obtain ⟨e7, k7⟩ := XS.newly (o := HO.tup _) ht7
    generalize hGH7 : upd _ t7 _ = H7 at e7 k7 ⊢
    walk_at "go"
    refine ⟨XS.sz (by simp), fun t8 ht8 => ?_⟩
    obtain ⟨e8, k8⟩ := XS.newly (o := HO.tup _) ht8
    refine q1 (k, ps) (ws.drop (j + 1)) (by rw [sof]; show some ((k, ps ++ []), _) = _; rw [List.append_nil]) t7 t8 (j + 1) _ (e2.trans (e6.trans (e7.trans e8))) (by omega) rfl ?_ (SqT.of k8)
    exact Dp.mkSum (s := (k, ps)) (e8.seqT (SqT.of k7)) ((e7.trans e8).seqT (SqT.of k6)) (DpAll.same (e6.trans (e7.trans e8)) _ _ d2)

abbrev s__read_statement : Stmt := topS 20
abbrev N__read_statement : List Str := ["words", "at", "within", "kind", "one", "divisor", "part", "name"]
abbrev P__read_statement : List Str := ["words", "at", "within"]
theorem sc__read_statement : FnScope N__read_statement P__read_statement (defScope s__read_statement) := ⟨rfl, rfl, rfl, by decide +kernel, rfl, by decide +kernel, by decide +kernel⟩
theorem rst_step {n : Nat} {eS eV eP eN oS bN : Addr} (Y : Er K mg eS eV eP eN) (Cn : Cs K mg oS bN) (C : Cw mg) (F : FunAt K mg "_read_statement" s__read_statement P__read_statement) (Z : Bl mg) (D__word : DefAt P w K mg base (L2.CX P w) 1 "_word" P__word (sp_word K eN))
    (D__number : DefAt P w K mg base (L2.CX P w) 1 "_number" P__number (sp_number eN)) (D__name : DefAt P w K mg base (L2.CX P w) 1 "_name" P__name (sp_name eN)) (D__read_sum : DefAt P w K mg base (L2.CX P w) 2 "_read_sum" P__read_sum (sp_rsum K eN))
    (D__read_statement : DefAt P w K mg base (L2.CX P w) (2 * n + 2) "_read_statement" P__read_statement (fun vs H Q E => ∃ m, n = m + 1 ∧ sp_rst m K eN vs H Q E)) (D__read_parts : DefAt P w K mg base (L2.CX P w) (2 * n + 2) "_read_parts" P__read_parts (fun vs H Q E => ∃ m, n = m + 1 ∧ sp_rparts m K eN vs H Q E)) :
    DefAt P w K mg base (L2.CX P w) (2 * n + 3) "_read_statement" P__read_statement (sp_rst n K eN) := by
  obtain ⟨tM, Ci_MW⟩ := C.MOST_WITHIN
  refine F.okX sc__read_statement (fun vs H Q E h => ?_) (fun f cdv A outer s H vs Q E hr h => ?_)
  · obtain ⟨_, _, _, rfl, _⟩ := h
    rfl
  obtain ⟨p, ws, i, rfl, hw, hi, hn41, q1, q2⟩ := h
  have hn := hw.n
  refine ⟨_, (pss_cons (ps_if (pt_cmpR op_gt (pv 2) (pe_glob (v := .int _) rfl Ci_MW ⟨_, rfl⟩) (nomark _))
          (pss_one (ps_raise rfl (takes_of rfl rfl rfl rfl) (pmk_ownA PySem.F.excBase_ValueError Y.x_NoNote Y.g_NoNote Y.k_NoNote (raises_own Y.b_NoNote Y.t_NoNote) rfl (pa_cons pe_str pa_nil)))) pss_nil)
        (pss_cons (ps_set (i := 3) sc__read_statement.nd rfl (Or.inl rfl) (pe_callX D__word (hr.mono (by first | exact Nat.le_refl _ | omega | decide)) rfl (fun σ => passAt (takes_of rfl rfl rfl rfl) σ) (pa_cons (pv 0) (pa_cons (pv 1) pa_nil))))
        (pss_cons (ps_aug (i := 1) sc__read_statement.nd rfl (Or.inl rfl) pe_int ip_add)
        (pss_cons (ps_if (pt_cmpR (op_inK K) (pv 3) (pe_tup (pa_cons pe_str (pa_cons pe_str pa_nil))) (by rfl))
          (pss_cons (ps_asg (pe_callX D__read_sum (hr.mono (by first | exact Nat.le_refl _ | omega | decide)) rfl (fun σ => passAt (takes_of rfl rfl rfl rfl) σ) (pa_cons (pv 0) (pa_cons (pv 1) pa_nil))) (pg_tupK (n := 2) K rfl (pgs_cons (pg_name (i := 4) sc__read_statement.nd rfl (Or.inl rfl)) (pgs_cons (pg_name (i := 1) sc__read_statement.nd rfl (Or.inl rfl)) pgs_nil))))
        (pss_one (ps_ret (pe_tup (pa_cons (pe_tup (pa_cons (pv 3) (pa_cons (pv 4) pa_nil))) (pa_cons (pv 1) pa_nil)))))) pss_nil)
        (pss_cons (ps_if (pt_cmpR op_eq (pv 3) pe_str (nomark _))
          (pss_cons (ps_set (i := 5) sc__read_statement.nd rfl (Or.inl rfl) (pe_callX D__number (hr.mono (by first | exact Nat.le_refl _ | omega | decide)) rfl (fun σ => passAt (takes_of rfl rfl rfl rfl) σ) (pa_cons (pe_callX D__word (hr.mono (by first | exact Nat.le_refl _ | omega | decide)) rfl (fun σ => passAt (takes_of rfl rfl rfl rfl) σ) (pa_cons (pv 0) (pa_cons (pv 1) pa_nil))) pa_nil)))
        (pss_cons (ps_if (pt_cmpR op_lt (pv 5) pe_int (nomark _))
          (pss_one (ps_raise rfl (takes_of rfl rfl rfl rfl) (pmk_ownA PySem.F.excBase_ValueError Y.x_NoNote Y.g_NoNote Y.k_NoNote (raises_own Y.b_NoNote Y.t_NoNote) rfl (pa_cons pe_str pa_nil)))) pss_nil)
        (pss_cons (ps_asg (pe_callX D__read_sum (hr.mono (by first | exact Nat.le_refl _ | omega | decide)) rfl (fun σ => passAt (takes_of rfl rfl rfl rfl) σ) (pa_cons (pv 0) (pa_cons (pe_op op_add (pv 1) pe_int) pa_nil))) (pg_tupK (n := 2) K rfl (pgs_cons (pg_name (i := 4) sc__read_statement.nd rfl (Or.inl rfl)) (pgs_cons (pg_name (i := 1) sc__read_statement.nd rfl (Or.inl rfl)) pgs_nil))))
        (pss_one (ps_ret (pe_tup (pa_cons (pe_tup (pa_cons (pv 3) (pa_cons (pv 5) (pa_cons (pv 4) pa_nil)))) (pa_cons (pv 1) pa_nil)))))))) pss_nil)
        (pss_cons (ps_if (pt_cmpR op_eq (pv 3) pe_str (nomark _))
          (pss_cons (ps_asg (pe_callX D__read_statement (hr.mono (by first | exact Nat.le_refl _ | omega | decide)) rfl (fun σ => passAt (takes_of rfl rfl rfl rfl) σ) (pa_cons (pv 0) (pa_cons (pv 1) (pa_cons (pe_op op_add (pv 2) pe_int) pa_nil)))) (pg_tupK (n := 2) K rfl (pgs_cons (pg_name (i := 6) sc__read_statement.nd rfl (Or.inl rfl)) (pgs_cons (pg_name (i := 1) sc__read_statement.nd rfl (Or.inl rfl)) pgs_nil))))
        (pss_one (ps_ret (pe_tup (pa_cons (pe_tup (pa_cons (pv 3) (pa_cons (pv 6) pa_nil))) (pa_cons (pv 1) pa_nil)))))) pss_nil)
        (pss_cons (ps_if (pt_cmpR (op_inK K) (pv 3) (pe_glob (v := .ref _) rfl Cn.c_BINDING rfl) (by rfl))
          (pss_cons (ps_set (i := 7) sc__read_statement.nd rfl (Or.inl rfl) (pe_callX D__name (hr.mono (by first | exact Nat.le_refl _ | omega | decide)) rfl (fun σ => passAt (takes_of rfl rfl rfl rfl) σ) (pa_cons (pe_callX D__word (hr.mono (by first | exact Nat.le_refl _ | omega | decide)) rfl (fun σ => passAt (takes_of rfl rfl rfl rfl) σ) (pa_cons (pv 0) (pa_cons (pv 1) pa_nil))) pa_nil)))
        (pss_cons (ps_asg (pe_callX D__read_statement (hr.mono (by first | exact Nat.le_refl _ | omega | decide)) rfl (fun σ => passAt (takes_of rfl rfl rfl rfl) σ) (pa_cons (pv 0) (pa_cons (pe_op op_add (pv 1) pe_int) (pa_cons (pe_op op_add (pv 2) pe_int) pa_nil)))) (pg_tupK (n := 2) K rfl (pgs_cons (pg_name (i := 6) sc__read_statement.nd rfl (Or.inl rfl)) (pgs_cons (pg_name (i := 1) sc__read_statement.nd rfl (Or.inl rfl)) pgs_nil))))
        (pss_one (ps_ret (pe_tup (pa_cons (pe_tup (pa_cons (pv 3) (pa_cons (pv 7) (pa_cons (pv 6) pa_nil)))) (pa_cons (pv 1) pa_nil))))))) pss_nil)
        (pss_cons (ps_if (pt_cmpR (op_inK K) (pv 3) (pe_tup (pa_cons pe_str (pa_cons pe_str pa_nil))) (by rfl))
          (pss_one (ps_ret (pe_callX D__read_parts (hr.mono (by first | exact Nat.le_refl _ | omega | decide)) rfl (fun σ => passAt (takes_of rfl rfl rfl rfl) σ) (pa_cons (pv 3) (pa_cons (pv 0) (pa_cons (pv 1) (pa_cons (pv 2) pa_nil))))))) pss_nil)
        (pss_one (ps_raise rfl (takes_of rfl rfl rfl rfl) (pmk_ownA PySem.F.excBase_ValueError Y.x_NoNote Y.g_NoNote Y.k_NoNote (raises_own Y.b_NoNote Y.t_NoNote) rfl (pa_cons pe_str pa_nil)))))))))))), ?_⟩
  walk_at "go"
  cases n with
  | zero =>
    refine XS.x_yes (decide_eq_true (by omega)) ?_
    walk_at "go"
    exact ⟨XS.sz (by simp), q2 rfl H (Same.refl _)⟩
  | succ n =>
  refine XS.x_no (decide_eq_false (by omega)) ?_
  walk_at "go"
  refine ⟨p, ws, i, rfl, hw, by omega, fun x hx => ?_, fun hl => q2 (by rw [drop_out hl]; rfl) H (Same.refl _)⟩
  have hi' : i < ws.length := (List.getElem?_eq_some_iff.mp hx).1
  rw [drop_at hx] at q1 q2
  walk_at "go"
  refine ⟨_, rfl, ?_⟩
  walk_at "go"
  refine ⟨_, _, rfl, rfl, ?_⟩
  walk_at "go"
  cases kind x with
  | above =>
    refine ⟨XS.sz (by simp), fun t1 ht1 => ?_⟩
    obtain ⟨e1, k1⟩ := XS.newly (o := HO.tup _) ht1
    generalize hGH1 : upd _ t1 _ = H1 at e1 k1 ⊢
    walk_at "go"
    refine XS.x_inT (SqT.of k1) (XS.inV_str _ ["above", "nought"]) rfl ?_
    walk_at "go"
    refine XS.x_yes (by decide +kernel) ?_
    walk_at "go"
    rw [pS_above] at q1 q2
    refine ⟨p, ws, i + 1, rfl, hw.same e1, by omega, REnd.map (f := Stm.above) ⟨q1, q2⟩ e1 fun a r hgot t u j H2 e2 hj hr2 ht hu2 => ?_⟩
    walk_at "go"
    refine XS.x_gtup hu2 rfl ?_
    walk_at "go"
    refine ⟨XS.sz (by simp), fun t5 ht5 => ?_⟩
    obtain ⟨e5, k5⟩ := XS.newly (o := HO.tup _) ht5
    generalize hGH5 : upd _ t5 _ = H5 at e5 k5 ⊢
    walk_at "go"
    refine ⟨XS.sz (by simp), fun t6 ht6 => ?_⟩
    obtain ⟨e6, k6⟩ := XS.newly (o := HO.tup _) ht6
    exact q1 (.above a) r (by rw [hgot]; rfl) t5 t6 j _ (e1.trans (e2.trans (e5.trans e6))) hj hr2 (XS.Dp.mkAbove (e6.seqT (SqT.of k5)) (Dp.same (e5.trans e6) _ _ ht)) (SqT.of k6)
  | nought =>
    refine ⟨XS.sz (by simp), fun t1 ht1 => ?_⟩
    obtain ⟨e1, k1⟩ := XS.newly (o := HO.tup _) ht1
    generalize hGH1 : upd _ t1 _ = H1 at e1 k1 ⊢
    walk_at "go"
    refine XS.x_inT (SqT.of k1) (XS.inV_str _ ["above", "nought"]) rfl ?_
    walk_at "go"
    refine XS.x_yes (by decide +kernel) ?_
    walk_at "go"
    rw [pS_nought] at q1 q2
    refine ⟨p, ws, i + 1, rfl, hw.same e1, by omega, REnd.map (f := Stm.nought) ⟨q1, q2⟩ e1 fun a r hgot t u j H2 e2 hj hr2 ht hu2 => ?_⟩
    walk_at "go"
    refine XS.x_gtup hu2 rfl ?_
    walk_at "go"
    refine ⟨XS.sz (by simp), fun t5 ht5 => ?_⟩
    obtain ⟨e5, k5⟩ := XS.newly (o := HO.tup _) ht5
    generalize hGH5 : upd _ t5 _ = H5 at e5 k5 ⊢
    walk_at "go"
    refine ⟨XS.sz (by simp), fun t6 ht6 => ?_⟩
    obtain ⟨e6, k6⟩ := XS.newly (o := HO.tup _) ht6
    exact q1 (.nought a) r (by rw [hgot]; rfl) t5 t6 j _ (e1.trans (e2.trans (e5.trans e6))) hj hr2 (XS.Dp.mkNought (e6.seqT (SqT.of k5)) (Dp.same (e5.trans e6) _ _ ht)) (SqT.of k6)
  | goes =>
    refine ⟨XS.sz (by simp), fun t1 ht1 => ?_⟩
    obtain ⟨e1, k1⟩ := XS.newly (o := HO.tup _) ht1
    generalize hGH1 : upd _ t1 _ = H1 at e1 k1 ⊢
    walk_at "go"
    refine XS.x_inT (SqT.of k1) (XS.inV_str _ ["above", "nought"]) rfl ?_
    walk_at "go"
    refine XS.x_no (by decide +kernel) ?_
    walk_at "go"
    refine XS.x_yes (by decide +kernel) ?_
    walk_at "go"
    rw [pS_goes] at q1 q2
    have hw1 := hw.same e1
    refine ⟨p, ws, i + 1, rfl, hw1, by omega, fun y hy => ?_, fun hl => q2 (by rw [drop_out hl]; rfl) H1 e1⟩
    have hi2 : i + 1 < ws.length := (List.getElem?_eq_some_iff.mp hy).1
    rw [drop_at hy] at q1 q2
    walk_at "go"
    refine ⟨y, rfl, hw.w y (List.mem_of_getElem? hy), fun m hm _ => ?_, fun hm _ => q2 (pGo_num hm) H1 e1⟩
    rw [pGo_some hm] at q1 q2
    walk_at "go"
    refine XS.x_d (fun c => ?_) (fun c => ?_)
    · walk_at "go"
      exact ⟨XS.sz (by simp), q2 (if_neg (by omega)) H1 e1⟩
    · rw [if_pos (by omega)] at q1 q2
      walk_at "go"
      refine ⟨p, ws, i + 1 + 1, rfl, hw1, by omega, REnd.map (f := Stm.goes m) ⟨q1, q2⟩ e1 fun a r hgot t u j H2 e2 hj hr2 ht hu2 => ?_⟩
      walk_at "go"
      refine XS.x_gtup hu2 rfl ?_
      walk_at "go"
      refine ⟨XS.sz (by simp), fun t5 ht5 => ?_⟩
      obtain ⟨e5, k5⟩ := XS.newly (o := HO.tup _) ht5
      generalize hGH5 : upd _ t5 _ = H5 at e5 k5 ⊢
      walk_at "go"
      refine ⟨XS.sz (by simp), fun t6 ht6 => ?_⟩
      obtain ⟨e6, k6⟩ := XS.newly (o := HO.tup _) ht6
      exact q1 (.goes m a) r (by rw [hgot]; rfl) t5 t6 j _ (e1.trans (e2.trans (e5.trans e6))) hj hr2 (XS.Dp.mkGoes (e6.seqT (SqT.of k5)) (Dp.same (e5.trans e6) _ _ ht)) (SqT.of k6)
  | not =>
    refine ⟨XS.sz (by simp), fun t1 ht1 => ?_⟩
    obtain ⟨e1, k1⟩ := XS.newly (o := HO.tup _) ht1
    generalize hGH1 : upd _ t1 _ = H1 at e1 k1 ⊢
    walk_at "go"
    refine XS.x_inT (SqT.of k1) (XS.inV_str _ ["above", "nought"]) rfl ?_
    walk_at "go"
    refine XS.x_no (by decide +kernel) ?_
    walk_at "go"
    refine XS.x_no (by decide +kernel) ?_
    walk_at "go"
    refine XS.x_yes (by decide +kernel) ?_
    walk_at "go"
    rw [pS_not] at q1 q2
    refine ⟨n, rfl, p, ws, i + 1, by rw [show (41 : Int) - ((n + 1 : Nat) : Int) + 1 = 41 - n by omega]; rfl, hw.same e1, by omega, by omega, REnd.map (f := Stm.neg) ⟨q1, q2⟩ e1 fun a r hgot t u j H2 e2 hj hr2 ht hu2 => ?_⟩
    walk_at "go"
    refine XS.x_gtup hu2 rfl ?_
    walk_at "go"
    refine ⟨XS.sz (by simp), fun t5 ht5 => ?_⟩
    obtain ⟨e5, k5⟩ := XS.newly (o := HO.tup _) ht5
    generalize hGH5 : upd _ t5 _ = H5 at e5 k5 ⊢
    walk_at "go"
    refine ⟨XS.sz (by simp), fun t6 ht6 => ?_⟩
    obtain ⟨e6, k6⟩ := XS.newly (o := HO.tup _) ht6
    exact q1 (.neg a) r (by rw [hgot]; rfl) t5 t6 j _ (e1.trans (e2.trans (e5.trans e6))) hj hr2 (XS.Dp.mkNeg (e6.seqT (SqT.of k5)) (Dp.same (e5.trans e6) _ _ ht)) (SqT.of k6)
  | bnd o =>
    refine ⟨XS.sz (by simp), fun t1 ht1 => ?_⟩
    obtain ⟨e1, k1⟩ := XS.newly (o := HO.tup _) ht1
    generalize hGH1 : upd _ t1 _ = H1 at e1 k1 ⊢
    walk_at "go"
    refine XS.x_inT (SqT.of k1) (XS.inV_str _ ["above", "nought"]) rfl ?_
    walk_at "go"
    refine XS.x_no (by cases o <;> decide +kernel) ?_
    walk_at "go"
    refine XS.x_no (by cases o <;> decide +kernel) ?_
    walk_at "go"
    refine XS.x_no (by cases o <;> decide +kernel) ?_
    walk_at "go"
    refine XS.x_inT (Cn.s_BINDING _) (XS.inV_str _ ["some", "all"]) rfl ?_
    walk_at "go"
    refine XS.x_yes (by cases o <;> decide +kernel) ?_
    walk_at "go"
    rw [pS_bnd] at q1 q2
    have hw1 := hw.same e1
    refine ⟨p, ws, i + 1, rfl, hw1, by omega, fun y hy => ?_, fun hl => q2 (by rw [drop_out hl]; rfl) H1 e1⟩
    have hi2 : i + 1 < ws.length := (List.getElem?_eq_some_iff.mp hy).1
    rw [drop_at hy] at q1 q2
    walk_at "go"
    refine ⟨y, rfl, hw.w y (List.mem_of_getElem? hy), fun hm => ?_, fun hm => q2 (pBd_no hm) H1 e1⟩
    rw [pBd_yes hm] at q1 q2
    walk_at "go"
    refine ⟨n, rfl, p, ws, i + 1 + 1, by rw [show (41 : Int) - ((n + 1 : Nat) : Int) + 1 = 41 - n by omega]; rfl, hw1, by omega, by omega, REnd.map (f := Stm.bnd o y) ⟨q1, q2⟩ e1 fun a r hgot t u j H2 e2 hj hr2 ht hu2 => ?_⟩
    walk_at "go"
    refine XS.x_gtup hu2 rfl ?_
    walk_at "go"
    refine ⟨XS.sz (by simp), fun t5 ht5 => ?_⟩
    obtain ⟨e5, k5⟩ := XS.newly (o := HO.tup _) ht5
    generalize hGH5 : upd _ t5 _ = H5 at e5 k5 ⊢
    walk_at "go"
    refine ⟨XS.sz (by simp), fun t6 ht6 => ?_⟩
    obtain ⟨e6, k6⟩ := XS.newly (o := HO.tup _) ht6
    exact q1 (.bnd o y a) r (by rw [hgot]; rfl) t5 t6 j _ (e1.trans (e2.trans (e5.trans e6))) hj hr2 (XS.Dp.mkBnd (e6.seqT (SqT.of k5)) rfl (Dp.same (e5.trans e6) _ _ ht)) (SqT.of k6)
  | con o =>
    refine ⟨XS.sz (by simp), fun t1 ht1 => ?_⟩
    obtain ⟨e1, k1⟩ := XS.newly (o := HO.tup _) ht1
    generalize hGH1 : upd _ t1 _ = H1 at e1 k1 ⊢
    walk_at "go"
    refine XS.x_inT (SqT.of k1) (XS.inV_str _ ["above", "nought"]) rfl ?_
    walk_at "go"
    refine XS.x_no (by cases o <;> decide +kernel) ?_
    walk_at "go"
    refine XS.x_no (by cases o <;> decide +kernel) ?_
    walk_at "go"
    refine XS.x_no (by cases o <;> decide +kernel) ?_
    walk_at "go"
    refine XS.x_inT (Cn.s_BINDING _) (XS.inV_str _ ["some", "all"]) rfl ?_
    walk_at "go"
    refine XS.x_no (by cases o <;> decide +kernel) ?_
    walk_at "go"
    refine ⟨XS.sz (by simp), fun t2 ht2 => ?_⟩
    obtain ⟨e2, k2⟩ := XS.newly (o := HO.tup _) ht2
    generalize hGH2 : upd _ t2 _ = H2 at e2 k2 ⊢
    walk_at "go"
    refine XS.x_inT (SqT.of k2) (XS.inV_str _ ["and", "or"]) rfl ?_
    walk_at "go"
    refine XS.x_yes (by cases o <;> decide +kernel) ?_
    walk_at "go"
    rw [pS_con] at q1 q2
    have e12 := e1.trans e2
    exact ⟨n, rfl, p, ws, i + 1, o, by rw [show (41 : Int) - ((n + 1 : Nat) : Int) = 40 - n by omega]; rfl, hw.same e12, by omega, by omega, fun a r hgot t u j H' e => q1 a r hgot t u j H' (e12.trans e), fun hgot H' e => q2 hgot H' (e12.trans e)⟩
  | «else» h1 h2 h3 h4 h5 h6 h7 h8 =>
    refine ⟨XS.sz (by simp), fun t1 ht1 => ?_⟩
    obtain ⟨e1, k1⟩ := XS.newly (o := HO.tup _) ht1
    generalize hGH1 : upd _ t1 _ = H1 at e1 k1 ⊢
    walk_at "go"
    refine XS.x_inT (SqT.of k1) (XS.inV_str _ ["above", "nought"]) rfl ?_
    walk_at "go"
    refine XS.x_no (decide_eq_false (by simp [h1, h2, h3, h4, h5, h6, h7, h8])) ?_
    walk_at "go"
    refine XS.x_no (decide_eq_false h3) ?_
    walk_at "go"
    refine XS.x_no (decide_eq_false h4) ?_
    walk_at "go"
    refine XS.x_inT (Cn.s_BINDING _) (XS.inV_str _ ["some", "all"]) rfl ?_
    walk_at "go"
    refine XS.x_no (decide_eq_false (by simp [h1, h2, h3, h4, h5, h6, h7, h8])) ?_
    walk_at "go"
    refine ⟨XS.sz (by simp), fun t2 ht2 => ?_⟩
    obtain ⟨e2, k2⟩ := XS.newly (o := HO.tup _) ht2
    generalize hGH2 : upd _ t2 _ = H2 at e2 k2 ⊢
    walk_at "go"
    refine XS.x_inT (SqT.of k2) (XS.inV_str _ ["and", "or"]) rfl ?_
    walk_at "go"
    refine XS.x_no (decide_eq_false (by simp [h1, h2, h3, h4, h5, h6, h7, h8])) ?_
    walk_at "go"
    exact ⟨XS.sz (by simp), q2 (pS_else _ h1 h2 h3 h4 h5 h6 h7 h8) _ (e1.trans e2)⟩

abbrev s__read_parts : Stmt := topS 21
abbrev N__read_parts : List Str := ["kind", "words", "at", "within", "count", "parts", "part"]
abbrev P__read_parts : List Str := ["kind", "words", "at", "within"]
theorem sc__read_parts : FnScope N__read_parts P__read_parts (defScope s__read_parts) := ⟨rfl, rfl, rfl, by decide +kernel, rfl, by decide +kernel, by decide +kernel⟩
theorem d__read_parts {n : Nat} {eS eV eP eN : Addr} (Y : Er K mg eS eV eP eN) (F : FunAt K mg "_read_parts" s__read_parts P__read_parts) (Z : Bl mg) (D__word : DefAt P w K mg base (L2.CX P w) 1 "_word" P__word (sp_word K eN))
    (D__number : DefAt P w K mg base (L2.CX P w) 1 "_number" P__number (sp_number eN)) (D__read_statement : DefAt P w K mg base (L2.CX P w) (2 * n + 3) "_read_statement" P__read_statement (sp_rst n K eN)) : DefAt P w K mg base (L2.CX P w) (2 * n + 4) "_read_parts" P__read_parts (sp_rparts n K eN) := by
  refine F.okX sc__read_parts (fun vs H Q E h => ?_) (fun f cdv A outer s H vs Q E hr h => ?_)
  · obtain ⟨_, _, _, _, rfl, _⟩ := h
    rfl
  obtain ⟨p, ws, i, o, rfl, hw, hi, hn40, q1, q2⟩ := h
  have hn := hw.n
  refine ⟨_, (pss_cons (ps_set (i := 4) sc__read_parts.nd rfl (Or.inl rfl) (pe_callX D__number (hr.mono (by first | exact Nat.le_refl _ | omega | decide)) rfl (fun σ => passAt (takes_of rfl rfl rfl rfl) σ) (pa_cons (pe_callX D__word (hr.mono (by first | exact Nat.le_refl _ | omega | decide)) rfl (fun σ => passAt (takes_of rfl rfl rfl rfl) σ) (pa_cons (pv 1) (pa_cons (pv 2) pa_nil))) pa_nil)))
        (pss_cons (ps_if (pt_cmpR op_lt (pv 4) pe_int (nomark _))
          (pss_one (ps_raise rfl (takes_of rfl rfl rfl rfl) (pmk_ownA PySem.F.excBase_ValueError Y.x_NoNote Y.g_NoNote Y.k_NoNote (raises_own Y.b_NoNote Y.t_NoNote) rfl (pa_cons pe_str pa_nil)))) pss_nil)
        (pss_cons (ps_aug (i := 2) sc__read_parts.nd rfl (Or.inl rfl) pe_int ip_add)
        (pss_cons (ps_set (i := 5) sc__read_parts.nd rfl (Or.inl rfl) (pe_lst pa_nil))
        (pss_cons (ps_while (passes_of rfl) (pt_cmpR op_lt (pe_callB (call_lenK K) (by rfl) Z.len PySem.boot_len (pa_cons (pv 5) pa_nil)) (pv 4) (nomark _))
          (pss_cons (ps_asg (pe_callX D__read_statement (hr.mono (by first | exact Nat.le_refl _ | omega | decide)) rfl (fun σ => passAt (takes_of rfl rfl rfl rfl) σ) (pa_cons (pv 1) (pa_cons (pv 2) (pa_cons (pe_op op_add (pv 3) pe_int) pa_nil)))) (pg_tupK (n := 2) K rfl (pgs_cons (pg_name (i := 6) sc__read_parts.nd rfl (Or.inl rfl)) (pgs_cons (pg_name (i := 2) sc__read_parts.nd rfl (Or.inl rfl)) pgs_nil))))
        (pss_one (ps_expr (pe_bm PySem.F.plainAttrs_list PySem.F.slot_list_append PySem.F.type_list_append mt_append (pv 5) (pa_cons (pv 6) pa_nil))))))
        (pss_one (ps_ret (pe_tup (pa_cons (pe_tup (pa_cons (pv 0) (pa_cons (pe_callTy (call_tupK K) (by rfl) Z.tuple (by decide +kernel) (pa_cons (pv 5) pa_nil)) pa_nil))) (pa_cons (pv 2) pa_nil)))))))))), ?_⟩
  walk_at "go"
  refine ⟨p, ws, i, rfl, hw, by omega, fun x hx => ?_, fun hl => q2 (by rw [drop_out hl]; rfl) H (Same.refl _)⟩
  have hi' : i < ws.length := (List.getElem?_eq_some_iff.mp hx).1
  rw [drop_at hx] at q1 q2
  walk_at "go"
  refine ⟨x, rfl, hw.w x (List.mem_of_getElem? hx), fun k hk _ => ?_, fun hk _ => q2 (pCon_num hk) H (Same.refl _)⟩
  rw [pCon_some hk] at q1 q2
  walk_at "go"
  refine XS.x_d (fun c => ?_) (fun c => ?_)
  · walk_at "go"
    exact ⟨XS.sz (by simp), q2 (if_neg (by omega)) H (Same.refl _)⟩
  rw [if_pos (by omega)] at q1 q2
  walk_at "go"
  refine ⟨_, rfl, ?_⟩
  walk_at "go"
  refine ⟨_, _, rfl, rfl, ?_⟩
  walk_at "go"
  refine ⟨XS.sz (by simp), fun l1 hl1 => ?_⟩
  obtain ⟨e1, k1⟩ := XS.newly (o := HO.lst _) hl1
  generalize hGH1 : upd _ l1 _ = H1 at e1 k1 ⊢
  walk_at "go"
  have sof := SofarP.start (n := n) (c := k.toNat) (r := ws.drop (i + 1))
  generalize pP (pS n) (ws.drop (i + 1)).length k.toNat (ws.drop (i + 1)) = got at q1 q2 sof
  have hkk : ((k.toNat : Nat) : Int) = k := by omega
  refine ⟨fun m σ H' => ∃ (j : Nat) (acc : List V) (ps : List Stm) (y6 : Option V), σ = [some (.str (conW o)), some (.ref p), some (.int j), some (.int (40 - n)), some (.int k), some (.ref l1), y6] ∧ Same H H' ∧ H' l1 = some (.lst acc) ∧ DpAll K H' acc (ps.map toD) ∧ i < j ∧ j ≤ ws.length ∧ SofarP n got (k.toNat - ps.length) ps (ws.drop j) ∧ ps.length ≤ k.toNat ∧ ps.length ≤ j ∧ m = ws.length - j,
    ⟨_, i + 1, [], [], none, rfl, e1, k1, .nil, by omega, by omega, sof, by simp, by simp, rfl⟩, ?_⟩
  rintro m σ H2 ⟨j, acc, ps, y6, rfl, e2, k2, d2, hij, hj, sof, hpk, hps, rfl⟩
  have hw2 := hw.same e2
  have no : got = none → E (.ref eN) none H2 := fun h => q2 (by rw [h]; rfl) H2 e2
  have acl : acc.length = ps.length := by
    have := d2.len
    rw [List.length_map] at this
    exact this
  walk_at "go"
  refine XS.x_lenL (SqL.of k2) ?_
  rw [acl]
  walk_at "go"
  refine XS.x_d (fun c => ?_) (fun c => ?_)
  · obtain ⟨c', hc'⟩ : ∃ c', k.toNat - ps.length = c' + 1 := ⟨k.toNat - ps.length - 1, by omega⟩
    rw [hc'] at sof
    refine ⟨fun σ' H' => ∃ (j2 : Nat) (acc2 : List V) (ps2 : List Stm) (y6 : Option V), σ' = [some (.str (conW o)), some (.ref p), some (.int j2), some (.int (40 - n)), some (.int k), some (.ref l1), y6] ∧ Same H H' ∧ H' l1 = some (.lst acc2) ∧ DpAll K H' acc2 (ps2.map toD) ∧ j < j2 ∧ j2 ≤ ws.length ∧ SofarP n got (k.toNat - ps2.length) ps2 (ws.drop j2) ∧ ps2.length ≤ k.toNat ∧ ps2.length ≤ j2,
      fun σ' H' ⟨j2, acc2, ps2, y6, e, a1, a2, a3, a4, a5, a6, a7, a8⟩ => ⟨ws.length - j2, by omega, j2, acc2, ps2, y6, e, a1, a2, a3, by omega, a5, a6, a7, a8, rfl⟩, ?_⟩
    walk_at "go"
    refine ⟨p, ws, j, by rw [show (40 : Int) - n + 1 = 41 - n by omega], hw2, hj, by omega, fun a r hgot t u j2 H3 e3 hj2 hr2 ht hu2 => ?_, fun hgot H' e' => q2 (by rw [sof.none hgot]; rfl) H' (e2.trans e')⟩
    have hs := (pS_suf n _ _ _ hgot).len
    rw [hr2, List.length_drop, List.length_drop] at hs
    walk_at "go"
    refine XS.x_gtup hu2 rfl ?_
    walk_at "go"
    have k23 := e3 _ _ k2
    refine XS.x_tyL' (XS.x_tyL k23) ?_
    walk_at "go"
    have kk := keeps_lst (ys := acc ++ [.ref t]) k23
    refine XS.x_app k23 (Nat.lt_of_le_of_lt (by omega : acc.length ≤ WL) (by decide)) ?_
    refine ⟨j2, acc ++ [.ref t], ps ++ [a], _, rfl, XS.same_mut (e2.trans e3) hl1, upd_same, ?_, by omega, hj2, ?_, by simp; omega, by simp; omega⟩
    · rw [List.map_append]
      refine (DpAll.keeps kk _ _ (fun d hd => ?_) (DpAll.same e3 _ _ d2)).app (.one (Dp.keeps kk _ _ (im_stm a) ht))
      obtain ⟨z, _, rfl⟩ := List.mem_map.mp hd
      exact im_stm z
    · rw [← hr2, show k.toNat - (ps ++ [a]).length = c' by simp; omega]
      exact sof.more hgot
  · rw [show k.toNat - ps.length = 0 by omega] at sof
    walk_at "go"
    refine XS.x_tupL (SqL.of k2) fun t6 H6 ht6 e6 k6 => ?_
    walk_at "go"
    refine ⟨XS.sz (by simp), fun t7 ht7 => ?_⟩
    obtain ⟨e7, k7⟩ := XS.newly (o := HO.tup _) ht7
    generalize hGH7 : upd _ t7 _ = H7 at e7 k7 ⊢
    walk_at "go"
    refine ⟨XS.sz (by simp), fun t8 ht8 => ?_⟩
    obtain ⟨e8, k8⟩ := XS.newly (o := HO.tup _) ht8
    refine q1 (.con o ps) (ws.drop j) (by rw [sof.end]; rfl) t7 t8 j _ (e2.trans (e6.trans (e7.trans e8))) hj rfl ?_ (SqT.of k8)
    exact XS.Dp.mkCon (e8.seqT (SqT.of k7)) rfl ((e7.trans e8).seqT (SqT.of k6)) (DpAll.same (e6.trans (e7.trans e8)) _ _ d2)

theorem rst_all {eS eV eP eN oS bN : Addr} (Y : Er K mg eS eV eP eN) (Cn : Cs K mg oS bN) (C : Cw mg) (F : FunAt K mg "_read_statement" s__read_statement P__read_statement) (Fp : FunAt K mg "_read_parts" s__read_parts P__read_parts) (Z : Bl mg)
    (Dw : DefAt P w K mg base (L2.CX P w) 1 "_word" P__word (sp_word K eN)) (Dn : DefAt P w K mg base (L2.CX P w) 1 "_number" P__number (sp_number eN)) (Dx : DefAt P w K mg base (L2.CX P w) 1 "_name" P__name (sp_name eN)) (Ds : DefAt P w K mg base (L2.CX P w) 2 "_read_sum" P__read_sum (sp_rsum K eN)) :
    ∀ n, DefAt P w K mg base (L2.CX P w) (2 * n + 3) "_read_statement" P__read_statement (sp_rst n K eN)
  | 0 => rst_step Y Cn C F Z Dw Dn Dx Ds (F.never fun vs H Q E ⟨m, e, _⟩ => by omega) (Fp.never fun vs H Q E ⟨m, e, _⟩ => by omega)
  | n + 1 => by
    have ih := rst_all Y Cn C F Fp Z Dw Dn Dx Ds n
    refine rst_step Y Cn C F Z Dw Dn Dx Ds ((ih.mono (by omega)).imp fun vs H Q E ⟨m, e, h⟩ => ?_) ((d__read_parts Y Fp Z Dw Dn ih).imp fun vs H Q E ⟨m, e, h⟩ => ?_)
    · obtain rfl : n = m := by omega
      exact h
    · obtain rfl : n = m := by omega
      exact h
abbrev s_read : Stmt := topS 16
abbrev N_read : List Str := ["text", "words", "statement", "at"]
abbrev P_read : List Str := ["text"]
theorem sc_read : FnScope N_read P_read (defScope s_read) := ⟨rfl, rfl, rfl, by decide +kernel, rfl, by decide +kernel, by decide +kernel⟩
theorem d_read {eS eV eP eN : Addr} (Y : Er K mg eS eV eP eN) (F : FunAt K mg "read" s_read P_read) (Z : Bl mg) (D__read_statement : DefAt P w K mg base (L2.CX P w) 83 "_read_statement" P__read_statement (sp_rst 40 K eN)) : DefAt P w K mg base (L2.CX P w) 84 "read" P_read (sp_read K eN) := by
  refine F.okX sc_read (fun vs H Q E h => ?_) (fun f cdv A outer s H vs Q E hr h => ?_)
  · obtain ⟨_, rfl, _⟩ := h
    rfl
  obtain ⟨x, rfl, hx, q1, q2⟩ := h
  refine ⟨_, (pss_cons (ps_set (i := 1) sc_read.nd rfl (Or.inl rfl) (pe_split (pv 0) pe_str))
        (pss_cons (ps_asg (pe_callX D__read_statement (hr.mono (by first | exact Nat.le_refl _ | omega | decide)) rfl (fun σ => passAt (takes_of rfl rfl rfl rfl) σ) (pa_cons (pv 1) (pa_cons pe_int (pa_cons pe_int pa_nil)))) (pg_tupK (n := 2) K rfl (pgs_cons (pg_name (i := 2) sc_read.nd rfl (Or.inl rfl)) (pgs_cons (pg_name (i := 3) sc_read.nd rfl (Or.inl rfl)) pgs_nil))))
        (pss_cons (ps_if (pt_cmpR op_ne (pv 3) (pe_callB (call_lenK K) (by rfl) Z.len PySem.boot_len (pa_cons (pv 1) pa_nil)) (nomark _))
          (pss_one (ps_raise rfl (takes_of rfl rfl rfl rfl) (pmk_ownA PySem.F.excBase_ValueError Y.x_NoNote Y.g_NoNote Y.k_NoNote (raises_own Y.b_NoNote Y.t_NoNote) rfl (pa_cons pe_str pa_nil)))) pss_nil)
        (pss_one (ps_ret (pv 2)))))), ?_⟩
  walk_at "go"
  refine ⟨⟨_, rfl⟩, ?_⟩
  walk_at "go"
  refine ⟨x, " ", rfl, rfl, by decide +kernel, Nat.le_trans hx (by decide), fun p hp => ?_⟩
  obtain ⟨e1, k1⟩ := XS.newly (o := HO.lst ((Txt.split x " ").map V.str)) hp
  generalize hG1 : upd _ p _ = H1 at e1 k1 ⊢
  walk_at "go"
  have hw : WsOk K H1 p (wof x) := wof_ok (SqL.of k1) hx
  refine ⟨p, wof x, 0, rfl, hw, Nat.zero_le _, by decide, fun a r hgot t u j H2 e2 hj hr2 ht hu2 => ?_, fun hgot H' e' => q2 (fun a h => by rw [List.drop_zero] at hgot; rw [hgot] at h; cases h) H' (e1.trans e')⟩
  rw [List.drop_zero] at hgot
  walk_at "go"
  refine XS.x_gtup hu2 rfl ?_
  walk_at "go"
  refine XS.x_lenL (hw.same e2).l ?_
  rw [List.length_map]
  walk_at "go"
  refine XS.x_dn (fun c => ?_) (fun c => ?_)
  · walk_at "go"
    refine ⟨XS.sz (by simp), q2 (fun b h => ?_) _ (e1.trans e2)⟩
    rw [hgot] at h
    cases h
    have h0 := congrArg List.length hr2
    rw [List.length_drop] at h0
    simp at h0
    omega
  · walk_at "go"
    refine q1 a ?_ t H2 (e1.trans e2) ht
    have hj2 : j = (wof x).length := by omega
    rw [hgot, hr2, hj2, List.drop_length]

abbrev s__figures : Stmt := topS 19
abbrev N__figures : List Str := ["number", "rest", "pieces", "piece"]
abbrev P__figures : List Str := ["number"]
theorem sc__figures : FnScope N__figures P__figures (defScope s__figures) := ⟨rfl, rfl, rfl, by decide +kernel, rfl, by decide +kernel, by decide +kernel⟩
theorem d__figures (C : Cw mg) (F : FunAt K mg "_figures" s__figures P__figures) (Z : Bl mg) (Z2 : Bl2 mg) (Z3 : Bl3 mg) : DefAt P w K mg base CX0 1 "_figures" P__figures sp_figures := by
  obtain ⟨tP, Ci_P⟩ := C.PIECE
  obtain ⟨tE, Ci_PE⟩ := C.PIECE_END
  refine F.ok sc__figures (fun vs H Q E h => ?_) (fun f cdv A outer s H vs Q E hr h => ?_)
  · obtain ⟨_, rfl, _⟩ := h
    rfl
  obtain ⟨n, rfl, hn, q⟩ := h
  refine ⟨_, (pss_cons (ps_set (i := 1) sc__figures.nd rfl (Or.inl rfl) (pe_callB call_abs (by rfl) Z2.abs (by decide +kernel) (pa_cons (pv 0) pa_nil)))
        (pss_cons (ps_set (i := 2) sc__figures.nd rfl (Or.inl rfl) (pe_lst pa_nil))
        (pss_cons (ps_while PassesOwn.never (pt_cmpR op_ge (pv 1) (pe_glob (v := .int _) rfl Ci_PE ⟨_, rfl⟩) (nomark _))
          (pss_cons (ps_asg (pe_callB call_divmodN (by rfl) Z3.divmod (by decide +kernel) (pa_cons (pv 1) (pa_cons (pe_glob (v := .int _) rfl Ci_PE ⟨_, rfl⟩) pa_nil))) (pg_tupK (n := 2) K rfl (pgs_cons (pg_name (i := 1) sc__figures.nd rfl (Or.inl rfl)) (pgs_cons (pg_name (i := 3) sc__figures.nd rfl (Or.inl rfl)) pgs_nil))))
        (pss_one (ps_expr (pe_bm PySem.F.plainAttrs_list PySem.F.slot_list_append PySem.F.type_list_append mt_append (pv 2) (pa_cons (pe_m1 PySem.F.slot_str_zfill PySem.F.type_str_zfill mt_zfill (pe_callTy call_str_int (by rfl) Z.str (by decide +kernel) (pa_cons (pv 3) pa_nil)) (pe_glob (v := .int _) rfl Ci_P ⟨_, rfl⟩)) pa_nil))))))
        (pss_cons (ps_expr (pe_bm PySem.F.plainAttrs_list PySem.F.slot_list_append PySem.F.type_list_append mt_append (pv 2) (pa_cons (pe_callTy call_str_int (by rfl) Z.str (by decide +kernel) (pa_cons (pv 1) pa_nil)) pa_nil)))
        (pss_cons (ps_if (pt_cmpR op_lt (pv 0) pe_int (nomark _))
          (pss_one (ps_expr (pe_bm PySem.F.plainAttrs_list PySem.F.slot_list_append PySem.F.type_list_append mt_append (pv 2) (pa_cons pe_str pa_nil)))) pss_nil)
        (pss_one (ps_ret (pe_joinRev K pe_str (pv 2) Z3.reversed)))))))), ?_⟩
  walk_at "go"
  refine ⟨n, rfl, ?_⟩
  have ea := figs_abs (n := n)
  obtain ⟨a, hae, ha0, ha1⟩ : ∃ a : Int, (if n < 0 then -n else n) = a ∧ 0 ≤ a ∧ a.natAbs < 10 ^ 60 := ⟨_, rfl, by split <;> omega, by split <;> omega⟩
  rw [hae] at ea ⊢
  have hlog : a.natAbs.log2 < 1920 := Nat.lt_of_le_of_lt (XS.log2_mono (Nat.le_of_lt ha1)) (by decide)
  have hlen : (nS a).length ≤ 61 := nS_len ha1
  walk_at "go"
  refine ⟨XS.sz (by simp), fun l1 hl1 => ?_⟩
  obtain ⟨e1, k1⟩ := XS.newly (o := HO.lst _) hl1
  generalize hGH1 : upd _ l1 _ = H1 at e1 k1 ⊢
  walk_at "go"
  refine ⟨fun m σ H' => σ = [some (.int n), some (.int a), some (.ref l1), none] ∧ H' = H1 ∧ m = 0, ⟨0, rfl, rfl, rfl⟩, ?_⟩
  rintro m σ H' ⟨rfl, rfl, rfl⟩
  walk_at "go"
  refine XS.x_no (decide_eq_false (by omega)) ?_
  walk_at "go"
  refine XS.x_tyL' (XS.x_tyL k1) ?_
  walk_at "go"
  refine ⟨a, rfl, hlog, ?_⟩
  walk_at "go"
  refine XS.x_app k1 (by decide) ?_
  have k2 : upd H' l1 (HO.lst ([] ++ [V.str (Str.ofString (toString a))])) l1 = some (.lst ([nS a].map V.str)) := upd_same
  have e2 : Same H (upd H' l1 (HO.lst ([] ++ [V.str (Str.ofString (toString a))]))) := XS.same_mut e1 hl1
  generalize upd H' l1 (HO.lst ([] ++ [V.str (Str.ofString (toString a))])) = H2 at k2 e2 ⊢
  walk_at "go"
  refine XS.x_d (fun c => ?_) (fun c => ?_)
  · rw [if_pos c] at ea
    walk_at "go"
    refine XS.x_tyL' (XS.x_tyL k2) ?_
    walk_at "go"
    refine XS.x_app k2 (by simp; decide) ?_
    have k3 : upd H2 l1 (HO.lst ([nS a].map V.str ++ [V.str "-"])) l1 = some (.lst ([nS a, "-"].map V.str)) := upd_same
    have e3 : Same H (upd H2 l1 (HO.lst ([nS a].map V.str ++ [V.str "-"]))) := XS.same_mut e2 (by exact hl1)
    generalize upd H2 l1 (HO.lst ([nS a].map V.str ++ [V.str "-"])) = H3 at k3 e3 ⊢
    walk_at "go"
    refine ⟨_, rfl, ?_⟩
    walk_at "go"
    refine ⟨l1, _, rfl, SqL.of k3, ?_, ?_⟩
    · show (nS a).length + (("-" : Str).length + 0) + 2 * (Str.ofString "").length ≤ _
      have h1 : ("-" : Str).length = 1 := by decide +kernel
      have h2 : (Str.ofString "").length = 0 := by decide +kernel
      rw [h1, h2]
      omega
    · show Q (.str (Txt.join "" ["-", nS a])) H3
      rw [join2, ← ea]
      exact q _ e3
  · rw [if_neg c] at ea
    walk_at "go"
    refine ⟨_, rfl, ?_⟩
    walk_at "go"
    refine ⟨l1, _, rfl, SqL.of k2, ?_, ?_⟩
    · show (nS a).length + 0 + 1 * (Str.ofString "").length ≤ _
      have h2 : (Str.ofString "").length = 0 := by decide +kernel
      rw [h2]
      omega
    · show Q (.str (Txt.join "" [nS a])) H2
      rw [join1, ← ea]
      exact q _ e2

abbrev s__write_sum : Stmt := topS 18
abbrev N__write_sum : List Str := ["one", "words", "name", "many"]
abbrev P__write_sum : List Str := ["one", "words"]
theorem sc__write_sum : FnScope N__write_sum P__write_sum (defScope s__write_sum) := ⟨rfl, rfl, rfl, by decide +kernel, rfl, by decide +kernel, by decide +kernel⟩
theorem d__write_sum (F : FunAt K mg "_write_sum" s__write_sum P__write_sum) (Z : Bl mg) (D__figures : DefAt P w K mg base CX0 1 "_figures" P__figures sp_figures) : DefAt P w K mg base CX0 2 "_write_sum" P__write_sum (sp_write_sum K) := by
  refine F.ok sc__write_sum (fun vs H Q E h => ?_) (fun f cdv A outer s H vs Q E hr h => ?_)
  · obtain ⟨_, _, _, _, rfl, _⟩ := h
    rfl
  obtain ⟨v, p, s1, xs, rfl, h1, hp, ns, hb, q⟩ := h
  obtain ⟨a, b, us, rfl, a1, a2, a3⟩ := h1.sum
  have l1 := a3.len
  rw [List.length_map] at l1
  have hlen : (wSum s1).length = 2 * s1.2.length + 2 := by
    show (nS s1.1 :: (wPs s1.2 ++ [_])).length = _
    rw [List.length_cons, List.length_append, wPs_len]
    rfl
  refine ⟨_, (pss_cons (ps_expr (pe_bm PySem.F.plainAttrs_list PySem.F.slot_list_append PySem.F.type_list_append mt_append (pv 1) (pa_cons (pe_callD D__figures (hr.mono (by first | exact Nat.le_refl _ | omega | decide)) rfl pass0 (pa_cons (pe_ix (ix_tupK K) (pv 0) pe_int (fun _ _ => rfl)) pa_nil)) pa_nil)))
        (pss_cons (ps_for PassesOwn.never rfl (pi_tupK K (pe_ix (ix_tupK K) (pv 0) pe_int (fun _ _ => rfl))) (pg_tupK (n := 2) K rfl (pgs_cons (pg_name (i := 2) sc__write_sum.nd rfl (Or.inl rfl)) (pgs_cons (pg_name (i := 3) sc__write_sum.nd rfl (Or.inl rfl)) pgs_nil)))
          (pss_cons (ps_expr (pe_bm PySem.F.plainAttrs_list PySem.F.slot_list_append PySem.F.type_list_append mt_append (pv 1) (pa_cons (pe_callD D__figures (hr.mono (by first | exact Nat.le_refl _ | omega | decide)) rfl pass0 (pa_cons (pv 3) pa_nil)) pa_nil)))
        (pss_one (ps_expr (pe_bm PySem.F.plainAttrs_list PySem.F.slot_list_append PySem.F.type_list_append mt_append (pv 1) (pa_cons (pv 2) pa_nil))))))
        (pss_one (ps_expr (pe_bm PySem.F.plainAttrs_list PySem.F.slot_list_append PySem.F.type_list_append mt_append (pv 1) (pa_cons pe_str pa_nil)))))), ?_⟩
  walk_at "go"
  refine XS.x_tyL' (XS.x_tyL hp) ?_
  walk_at "go"
  refine XS.x_ixT a1 (XS.atI_get (i := 0) rfl) ?_
  walk_at "go"
  refine ⟨_, rfl, ns.n, fun H1 e1 => ?_⟩
  walk_at "go"
  have hp1 := e1 _ _ hp
  refine XS.x_app hp1 (Nat.lt_of_le_of_lt (by rw [List.length_map]; omega : _ ≤ WL) (by decide)) ?_
  have b1 : But p H (upd H1 p (HO.lst (xs.map V.str ++ [V.str (nS s1.1)]))) := (XS.Same.but e1).trans But.upd
  have k1 : upd H1 p (HO.lst (xs.map V.str ++ [V.str (nS s1.1)])) p = some (.lst ((xs ++ [nS s1.1] ++ wPs (s1.2.take 0)).map V.str)) := by rw [upd_same]; simp [wPs]
  generalize upd H1 p (HO.lst (xs.map V.str ++ [V.str (nS s1.1)])) = H2 at b1 k1 ⊢
  have kk := but_kl b1 hp
  have hb' : xs.length + (2 * s1.2.length + 2) ≤ WL := by omega
  walk_at "go"
  refine XS.x_ixT (kk.seqT a1) (XS.atI_get (i := 1) rfl) ?_
  refine XS.x_forT (kk.seqT a2) (fun i σ H' => ∃ (y2 y3 : Option V), σ = [some (.ref a), some (.ref p), y2, y3] ∧ But p H2 H' ∧ H' p = some (.lst ((xs ++ [nS s1.1] ++ wPs (s1.2.take i)).map V.str))) ⟨none, none, rfl, But.refl _ _, k1⟩ (fun i σ H' _ ⟨_, _, _, bb, _⟩ => (but_kl bb k1).seqT (kk.seqT a2)) ?_ ?_
  · rintro i u σ H' hi ⟨y2, y3, rfl, b3, k3⟩
    have hlt : i < s1.2.length := by rw [← l1]; exact (List.getElem?_eq_some_iff.mp hi).1
    have hpp : s1.2[i]? = some s1.2[i] := List.getElem?_eq_getElem hlt
    generalize s1.2[i] = pr at hpp
    have hmem := List.mem_of_getElem? hpp
    obtain ⟨c, rfl, hc⟩ := (pair_at (DpAll.keeps ((kk.trans (but_kl b3 k1))) _ _ (im_pairs _) a3) hpp hi).pair
    have wl := wPs_len (s1.2.take i)
    rw [List.length_take] at wl
    have lb : ((xs ++ [nS s1.1] ++ wPs (s1.2.take i)).map V.str).length + 1 ≤ WL := by
      rw [List.length_map, List.length_append, List.length_append]
      show xs.length + 1 + _ + 1 ≤ _
      omega
    refine XS.x_gtup hc rfl ?_
    walk_at "go"
    refine XS.x_tyL' (XS.x_tyL k3) ?_
    walk_at "go"
    refine ⟨_, rfl, (ns.p pr hmem).1, fun H4 e4 => ?_⟩
    walk_at "go"
    have k4 := e4 _ _ k3
    refine XS.x_app k4 (Nat.lt_of_le_of_lt (by omega : _ ≤ WL) (by decide)) ?_
    have b5 : But p H2 (upd H4 p (HO.lst ((xs ++ [nS s1.1] ++ wPs (s1.2.take i)).map V.str ++ [V.str (nS pr.2)]))) := b3.trans ((XS.Same.but e4).trans But.upd)
    have k5 : upd H4 p (HO.lst ((xs ++ [nS s1.1] ++ wPs (s1.2.take i)).map V.str ++ [V.str (nS pr.2)])) p = some (.lst ((xs ++ [nS s1.1] ++ wPs (s1.2.take i) ++ [nS pr.2]).map V.str)) := by
      rw [upd_same, List.map_append (l₁ := xs ++ [nS s1.1] ++ wPs (s1.2.take i))]
      rfl
    generalize upd H4 p (HO.lst ((xs ++ [nS s1.1] ++ wPs (s1.2.take i)).map V.str ++ [V.str (nS pr.2)])) = H5 at b5 k5 ⊢
    walk_at "go"
    refine XS.x_tyL' (XS.x_tyL k5) ?_
    walk_at "go"
    refine XS.x_app k5 (Nat.lt_of_le_of_lt (by rw [List.length_map, List.length_append]; rw [List.length_map] at lb; exact lb : _ ≤ WL) (by decide)) ?_
    refine ⟨_, _, rfl, b5.trans But.upd, ?_⟩
    rw [upd_same, wPs_more hpp, ← List.append_assoc, show [nS pr.2, pr.1] = [nS pr.2] ++ [pr.1] from rfl, ← List.append_assoc, List.map_append (l₂ := [pr.1])]
    rfl
  · rintro σ H' ⟨y2, y3, rfl, b3, k3⟩
    rw [l1, List.take_length] at k3
    walk_at "go"
    refine XS.x_tyL' (XS.x_tyL k3) ?_
    walk_at "go"
    refine XS.x_app k3 (Nat.lt_of_le_of_lt (by rw [List.length_map, List.length_append, List.length_append, wPs_len]; show xs.length + 1 + _ ≤ _; omega : _ ≤ WL) (by decide)) ?_
    refine q _ (b1.trans (b3.trans But.upd)) ?_
    rw [upd_same]
    show some (HO.lst ((xs ++ [nS s1.1] ++ wPs s1.2).map V.str ++ [(";" : Str)].map V.str)) = some (HO.lst ((xs ++ (nS s1.1 :: (wPs s1.2 ++ [(";" : Str)]))).map V.str))
    rw [← List.map_append]
    simp
abbrev s__write : Stmt := topS 17
abbrev N__write : List Str := ["statement", "words", "kind", "part"]
abbrev P__write : List Str := ["statement", "words"]
theorem sc__write : FnScope N__write P__write (defScope s__write) := ⟨rfl, rfl, rfl, by decide +kernel, rfl, by decide +kernel, by decide +kernel⟩
theorem write_step {n : Nat} {oS bN : Addr} (Cn : Cs K mg oS bN) (F : FunAt K mg "_write" s__write P__write) (Z : Bl mg) (D__figures : DefAt P w K mg base CX0 1 "_figures" P__figures sp_figures) (D__write_sum : DefAt P w K mg base CX0 2 "_write_sum" P__write_sum (sp_write_sum K))
    (D__write : DefAt P w K mg base CX0 (n + 2) "_write" P__write (sp_write n K)) : DefAt P w K mg base CX0 (n + 3) "_write" P__write (sp_write (n + 1) K) := by
  refine F.ok sc__write (fun vs H Q E h => ?_) (fun f cdv A outer s H vs Q E hr h => ?_)
  · obtain ⟨_, _, _, _, rfl, _⟩ := h
    rfl
  obtain ⟨v, l0, a, xs, rfl, h1, hl, nt, hd, hb, q⟩ := h
  refine ⟨_, (pss_cons (ps_set (i := 2) sc__write.nd rfl (Or.inl rfl) (pe_ix (ix_tupK K) (pv 0) pe_int (fun _ _ => rfl)))
        (pss_cons (ps_expr (pe_bm PySem.F.plainAttrs_list PySem.F.slot_list_append PySem.F.type_list_append mt_append (pv 1) (pa_cons (pv 2) pa_nil)))
        (pss_cons (ps_if (pt_cmpR op_eq (pv 2) pe_str (nomark _))
          (pss_one (ps_expr (pe_bm PySem.F.plainAttrs_list PySem.F.slot_list_append PySem.F.type_list_append mt_append (pv 1) (pa_cons (pe_callD D__figures (hr.mono (by first | exact Nat.le_refl _ | omega | decide)) rfl pass0 (pa_cons (pe_ix (ix_tupK K) (pv 0) pe_int (fun _ _ => rfl)) pa_nil)) pa_nil)))) pss_nil)
        (pss_one (ps_if (pt_cmpR (op_inK K) (pv 2) (pe_glob (v := .ref _) rfl Cn.c_OVER_SUMS rfl) (by rfl))
          (pss_one (ps_expr (pe_callD D__write_sum (hr.mono (by first | exact Nat.le_refl _ | omega | decide)) rfl pass0 (pa_cons (pe_ix (ix_tupK K) (pv 0) (pe_un un_neg pe_int) (fun _ _ => rfl)) (pa_cons (pv 1) pa_nil))))) (pss_one (ps_if (pt_cmpR op_eq (pv 2) pe_str (nomark _))
          (pss_one (ps_expr (pe_callD D__write (hr.mono (by first | exact Nat.le_refl _ | omega | decide)) rfl pass0 (pa_cons (pe_ix (ix_tupK K) (pv 0) pe_int (fun _ _ => rfl)) (pa_cons (pv 1) pa_nil))))) (pss_one (ps_if (pt_cmpR (op_inK K) (pv 2) (pe_glob (v := .ref _) rfl Cn.c_BINDING rfl) (by rfl))
          (pss_cons (ps_expr (pe_bm PySem.F.plainAttrs_list PySem.F.slot_list_append PySem.F.type_list_append mt_append (pv 1) (pa_cons (pe_ix (ix_tupK K) (pv 0) pe_int (fun _ _ => rfl)) pa_nil)))
        (pss_one (ps_expr (pe_callD D__write (hr.mono (by first | exact Nat.le_refl _ | omega | decide)) rfl pass0 (pa_cons (pe_ix (ix_tupK K) (pv 0) pe_int (fun _ _ => rfl)) (pa_cons (pv 1) pa_nil)))))) (pss_cons (ps_expr (pe_bm PySem.F.plainAttrs_list PySem.F.slot_list_append PySem.F.type_list_append mt_append (pv 1) (pa_cons (pe_callD D__figures (hr.mono (by first | exact Nat.le_refl _ | omega | decide)) rfl pass0 (pa_cons (pe_callB (call_lenK K) (by rfl) Z.len PySem.boot_len (pa_cons (pe_ix (ix_tupK K) (pv 0) pe_int (fun _ _ => rfl)) pa_nil)) pa_nil)) pa_nil)))
        (pss_one (ps_for PassesOwn.never rfl (pi_tupK K (pe_ix (ix_tupK K) (pv 0) pe_int (fun _ _ => rfl))) (pg_name (i := 3) sc__write.nd rfl (Or.inl rfl))
          (pss_one (ps_expr (pe_callD D__write (hr.mono (by first | exact Nat.le_refl _ | omega | decide)) rfl pass0 (pa_cons (pv 3) (pa_cons (pv 1) pa_nil))))))))))))))))), ?_⟩
  obtain ⟨p, us, rfl, hp, ds, eds, hds⟩ := Dp.stm h1
  walk_at "go"
  refine XS.x_ixT hp (XS.atI_get (i := 0) rfl) ?_
  walk_at "go"
  refine XS.x_tyL' (XS.x_tyL hl) ?_
  walk_at "go"
  have wpos : 1 ≤ (wds a).length := by cases a <;> exact Nat.succ_le_succ (Nat.zero_le _)
  refine XS.x_app hl (Nat.lt_of_le_of_lt (by rw [List.length_map]; omega : _ ≤ WL) (by decide)) ?_
  have b1 : But l0 H (upd H l0 (HO.lst (xs.map V.str ++ [V.str (headW a)]))) := But.upd
  have k1 : upd H l0 (HO.lst (xs.map V.str ++ [V.str (headW a)])) l0 = some (.lst ((xs ++ [headW a]).map V.str)) := by rw [upd_same]; simp
  generalize upd H l0 (HO.lst (xs.map V.str ++ [V.str (headW a)])) = H1 at b1 k1 ⊢
  have kk := but_kl b1 hl
  have hp1 := kk.seqT hp
  have d1 := Dp.keeps kk _ _ (im_stm a) h1
  walk_at "go"
  rw [XS.isGo_eq]
  cases nt with
  | @above s1 ns =>
    cases eds
    cases hds with
    | cons g1 g2 =>
    cases g2
    refine XS.x_no rfl ?_
    walk_at "go"
    refine XS.x_inT (Cn.s_OVER_SUMS _) (XS.in_over _) rfl ?_
    walk_at "go"
    refine XS.x_yes rfl ?_
    walk_at "go"
    refine XS.x_ixT hp1 rfl ?_
    walk_at "go"
    refine ⟨_, l0, s1, xs ++ [("above" : Str)], rfl, Dp.keeps kk _ _ (im_sum s1) g1, k1, ns, by simp only [wds, wdss, List.length_cons, List.length_append, List.length_nil, List.length_map] at hb ⊢; omega, fun H' b' k' => ?_⟩
    refine q H' (b1.trans b') ?_
    rw [k']
    show some (HO.lst ((xs ++ [("above" : Str)] ++ wSum s1).map V.str)) = some (HO.lst ((xs ++ (("above" : Str) :: wSum s1)).map V.str))
    simp
  | @nought s1 ns =>
    cases eds
    cases hds with
    | cons g1 g2 =>
    cases g2
    refine XS.x_no rfl ?_
    walk_at "go"
    refine XS.x_inT (Cn.s_OVER_SUMS _) (XS.in_over _) rfl ?_
    walk_at "go"
    refine XS.x_yes rfl ?_
    walk_at "go"
    refine XS.x_ixT hp1 rfl ?_
    walk_at "go"
    refine ⟨_, l0, s1, xs ++ [("nought" : Str)], rfl, Dp.keeps kk _ _ (im_sum s1) g1, k1, ns, by simp only [wds, wdss, List.length_cons, List.length_append, List.length_nil, List.length_map] at hb ⊢; omega, fun H' b' k' => ?_⟩
    refine q H' (b1.trans b') ?_
    rw [k']
    show some (HO.lst ((xs ++ [("nought" : Str)] ++ wSum s1).map V.str)) = some (HO.lst ((xs ++ (("nought" : Str) :: wSum s1)).map V.str))
    simp
  | @goes m s1 h0 hm ns =>
    cases eds
    cases hds with
    | cons g1 g2 =>
    cases g1
    cases g2 with
    | cons g2 g3 =>
    cases g3
    refine XS.x_yes rfl ?_
    walk_at "go"
    refine XS.x_tyL' (XS.x_tyL k1) ?_
    walk_at "go"
    refine XS.x_ixT hp1 (XS.atI_get (i := 1) rfl) ?_
    walk_at "go"
    refine ⟨m, rfl, hm, fun H2 e2 => ?_⟩
    walk_at "go"
    have k2 : H2 l0 = some (.lst ((xs ++ [("goes" : Str)]).map V.str)) := e2 _ _ k1
    refine XS.x_app k2 (Nat.lt_of_le_of_lt (by simp only [wds, wdss, List.length_cons, List.length_append, List.length_nil, List.length_map] at hb ⊢; omega : _ ≤ WL) (by decide)) ?_
    have b3 : But l0 H1 (upd H2 l0 (HO.lst ((xs ++ [("goes" : Str)]).map V.str ++ [V.str (nS m)]))) := (XS.Same.but e2).trans But.upd
    have k3 : upd H2 l0 (HO.lst ((xs ++ [("goes" : Str)]).map V.str ++ [V.str (nS m)])) l0 = some (.lst ((xs ++ [("goes" : Str)] ++ [nS m]).map V.str)) := by rw [upd_same]; simp
    generalize upd H2 l0 (HO.lst ((xs ++ [("goes" : Str)]).map V.str ++ [V.str (nS m)])) = H3 at b3 k3 ⊢
    have kk3 := kk.trans (but_kl b3 k1)
    walk_at "go"
    refine XS.x_inT (Cn.s_OVER_SUMS _) (XS.in_over (.goes m s1)) rfl ?_
    walk_at "go"
    refine XS.x_yes rfl ?_
    walk_at "go"
    refine XS.x_ixT (kk3.seqT hp) rfl ?_
    walk_at "go"
    refine ⟨_, l0, s1, xs ++ [("goes" : Str)] ++ [nS m], rfl, Dp.keeps kk3 _ _ (im_sum s1) g2, k3, ns, by simp only [wds, wdss, List.length_cons, List.length_append, List.length_nil, List.length_map] at hb ⊢; omega, fun H' b' k' => ?_⟩
    refine q H' (b1.trans (b3.trans b')) ?_
    rw [k']
    show some (HO.lst ((xs ++ [("goes" : Str)] ++ [nS m] ++ wSum s1).map V.str)) = some (HO.lst ((xs ++ (("goes" : Str) :: nS m :: wSum s1)).map V.str))
    simp
  | @neg c nc =>
    cases eds
    cases hds with
    | cons g1 g2 =>
    cases g2
    refine XS.x_no rfl ?_
    walk_at "go"
    refine XS.x_inT (Cn.s_OVER_SUMS _) (XS.in_over (.neg c)) rfl ?_
    walk_at "go"
    refine XS.x_no rfl ?_
    walk_at "go"
    refine XS.x_yes (XS.is_not (.neg c)) ?_
    walk_at "go"
    refine XS.x_ixT hp1 (XS.atI_get (i := 1) rfl) ?_
    walk_at "go"
    refine ⟨_, l0, c, xs ++ [("not" : Str)], rfl, Dp.keeps kk _ _ (im_stm c) g1, k1, nc, Nat.le_of_succ_le_succ hd, by simp only [wds, wdss, List.length_cons, List.length_append, List.length_nil, List.length_map] at hb ⊢; omega, fun H' b' k' => ?_⟩
    refine q H' (b1.trans b') ?_
    rw [k']
    show some (HO.lst ((xs ++ [("not" : Str)] ++ wds c).map V.str)) = some (HO.lst ((xs ++ (("not" : Str) :: wds c)).map V.str))
    simp
  | @bnd o x c hx nc =>
    cases eds
    cases hds with
    | cons g1 g2 =>
    cases g1
    cases g2 with
    | cons g2 g3 =>
    cases g3
    refine XS.x_no rfl ?_
    walk_at "go"
    refine XS.x_inT (Cn.s_OVER_SUMS _) (XS.in_over (.bnd o x c)) rfl ?_
    walk_at "go"
    refine XS.x_no rfl ?_
    walk_at "go"
    refine XS.x_no (XS.is_not (.bnd o x c)) ?_
    walk_at "go"
    refine XS.x_inT (Cn.s_BINDING _) (XS.in_bind (.bnd o x c)) rfl ?_
    walk_at "go"
    refine XS.x_yes rfl ?_
    walk_at "go"
    refine XS.x_tyL' (XS.x_tyL k1) ?_
    walk_at "go"
    refine XS.x_ixT hp1 (XS.atI_get (i := 1) rfl) ?_
    walk_at "go"
    have e2 := Same.refl H1
    have k2 : H1 l0 = some (.lst ((xs ++ [bndW o]).map V.str)) := k1
    refine XS.x_app k2 (Nat.lt_of_le_of_lt (by simp only [wds, wdss, List.length_cons, List.length_append, List.length_nil, List.length_map] at hb ⊢; omega : _ ≤ WL) (by decide)) ?_
    have b3 : But l0 H1 (upd H1 l0 (HO.lst ((xs ++ [bndW o]).map V.str ++ [V.str (x)]))) := (XS.Same.but e2).trans But.upd
    have k3 : upd H1 l0 (HO.lst ((xs ++ [bndW o]).map V.str ++ [V.str (x)])) l0 = some (.lst ((xs ++ [bndW o] ++ [x]).map V.str)) := by rw [upd_same]; simp
    generalize upd H1 l0 (HO.lst ((xs ++ [bndW o]).map V.str ++ [V.str (x)])) = H3 at b3 k3 ⊢
    have kk3 := kk.trans (but_kl b3 k1)
    walk_at "go"
    refine XS.x_ixT (kk3.seqT hp) (XS.atI_get (i := 2) rfl) ?_
    walk_at "go"
    refine ⟨_, l0, c, xs ++ [bndW o] ++ [x], rfl, Dp.keeps kk3 _ _ (im_stm c) g2, k3, nc, Nat.le_of_succ_le_succ hd, by simp only [wds, wdss, List.length_cons, List.length_append, List.length_nil, List.length_map] at hb ⊢; omega, fun H' b' k' => ?_⟩
    refine q H' (b1.trans (b3.trans b')) ?_
    rw [k']
    show some (HO.lst ((xs ++ [bndW o] ++ [x] ++ wds c).map V.str)) = some (HO.lst ((xs ++ (bndW o :: x :: wds c)).map V.str))
    simp
  | @con o l ncs hl60 =>
    cases eds
    cases hds with
    | cons g1 g2 =>
    cases g2
    rw [toDs_map] at g1
    cases g1 with
    | tup hs ha =>
    have ln := ha.len
    rw [List.length_map] at ln
    refine XS.x_no rfl ?_
    walk_at "go"
    refine XS.x_inT (Cn.s_OVER_SUMS _) (XS.in_over (.con o l)) rfl ?_
    walk_at "go"
    refine XS.x_no rfl ?_
    walk_at "go"
    refine XS.x_no (XS.is_not (.con o l)) ?_
    walk_at "go"
    refine XS.x_inT (Cn.s_BINDING _) (XS.in_bind (.con o l)) rfl ?_
    walk_at "go"
    refine XS.x_no rfl ?_
    walk_at "go"
    refine XS.x_tyL' (XS.x_tyL k1) ?_
    walk_at "go"
    refine XS.x_ixT hp1 (XS.atI_get (i := 1) rfl) ?_
    walk_at "go"
    refine XS.x_lenT (kk.seqT hs) ?_
    rw [ln]
    walk_at "go"
    refine ⟨_, rfl, by omega, fun H2 e2 => ?_⟩
    walk_at "go"
    have k2 : H2 l0 = some (.lst ((xs ++ [conW o]).map V.str)) := e2 _ _ k1
    refine XS.x_app k2 (Nat.lt_of_le_of_lt (by simp only [wds, wdss, List.length_cons, List.length_append, List.length_nil, List.length_map] at hb ⊢; omega : _ ≤ WL) (by decide)) ?_
    have b3 : But l0 H1 (upd H2 l0 (HO.lst ((xs ++ [conW o]).map V.str ++ [V.str (nS l.length)]))) := (XS.Same.but e2).trans But.upd
    have k3 : upd H2 l0 (HO.lst ((xs ++ [conW o]).map V.str ++ [V.str (nS l.length)])) l0 = some (.lst ((xs ++ [conW o] ++ [nS l.length]).map V.str)) := by rw [upd_same]; simp
    generalize upd H2 l0 (HO.lst ((xs ++ [conW o]).map V.str ++ [V.str (nS l.length)])) = H3 at b3 k3 ⊢
    have kk3 := kk.trans (but_kl b3 k1)
    walk_at "go"
    refine XS.x_ixT (kk3.seqT hp) (XS.atI_get (i := 1) rfl) ?_
    refine XS.x_forT (kk3.seqT hs) (fun i σ H' => ∃ y3 : Option V, σ = [some (.ref p), some (.ref l0), some (.str (conW o)), y3] ∧ But l0 H3 H' ∧ H' l0 = some (.lst ((xs ++ [conW o] ++ [nS l.length] ++ wdss (l.take i)).map V.str))) ⟨none, rfl, But.refl _ _, by rw [k3]; simp [wdss]⟩ (fun i σ H' _ ⟨_, _, bb, _⟩ => (but_kl bb k3).seqT (kk3.seqT hs)) ?_ ?_
    · rintro i u σ H' hi ⟨y3, rfl, b4, k4⟩
      have hlt : i < l.length := by rw [← ln]; exact (List.getElem?_eq_some_iff.mp hi).1
      have hc : l[i]? = some l[i] := List.getElem?_eq_getElem hlt
      generalize l[i] = c at hc
      have hmem := List.mem_of_getElem? hc
      have kk4 := kk3.trans (but_kl b4 k3)
      obtain ⟨dd, hdd, du⟩ := (DpAll.keeps kk4 _ _ (fun d hd => by obtain ⟨z, _, rfl⟩ := List.mem_map.mp hd; exact im_stm z) ha).getV hi
      rw [List.getElem?_map, hc] at hdd
      cases hdd
      walk_at "go"
      have e4 : wdss (l.take (i + 1)) = wdss (l.take i) ++ wds c := by
        rw [XS.take_more hc, wdss_app]
        show _ ++ (wds c ++ []) = _
        rw [List.append_nil]
      have e5 : (wdss (l.take (i + 1))).length ≤ (wdss l).length := by
        have := congrArg (fun z => (wdss z).length) (List.take_append_drop (i + 1) l)
        simp only [wdss_app, List.length_append] at this
        omega
      rw [e4, List.length_append] at e5
      refine ⟨u, l0, c, _, rfl, du, k4, ncs c hmem, by have := dep_in hmem; exact Nat.le_of_succ_le_succ (Nat.le_trans (Nat.succ_le_succ this) hd), by simp only [wds, wdss, List.length_cons, List.length_append, List.length_nil, List.length_map] at hb ⊢; omega, fun H5 b5 k5 => ?_⟩
      refine ⟨_, rfl, b4.trans b5, ?_⟩
      rw [k5, e4, List.append_assoc _ (wdss (l.take i))]
    · rintro σ H' ⟨y3, rfl, b4, k4⟩
      rw [ln, List.take_length] at k4
      walk_at "go"
      refine q H' (b1.trans (b3.trans b4)) ?_
      rw [k4]
      show some (HO.lst ((xs ++ [conW o] ++ [nS l.length] ++ wdss l).map V.str)) = some (HO.lst ((xs ++ (conW o :: nS l.length :: wdss l)).map V.str))
      simp
theorem write_all {oS bN : Addr} (Cn : Cs K mg oS bN) (F : FunAt K mg "_write" s__write P__write) (Z : Bl mg) (D__figures : DefAt P w K mg base CX0 1 "_figures" P__figures sp_figures) (D__write_sum : DefAt P w K mg base CX0 2 "_write_sum" P__write_sum (sp_write_sum K)) :
    ∀ n, DefAt P w K mg base CX0 (n + 2) "_write" P__write (sp_write n K)
  | 0 => F.never fun vs H Q E h => by
    obtain ⟨_, _, a, _, _, _, _, _, hd, _⟩ := h
    have := dep_pos a
    omega
  | n + 1 => write_step Cn F Z D__figures D__write_sum (write_all Cn F Z D__figures D__write_sum n)
abbrev s_written : Stmt := topS 15
abbrev N_written : List Str := ["statement", "words"]
abbrev P_written : List Str := ["statement"]
theorem sc_written : FnScope N_written P_written (defScope s_written) := ⟨rfl, rfl, rfl, by decide +kernel, rfl, by decide +kernel, by decide +kernel⟩
theorem d_written (F : FunAt K mg "written" s_written P_written) (Z : Bl mg) (D__write : DefAt P w K mg base CX0 42 "_write" P__write (sp_write 40 K)) : DefAt P w K mg base CX0 43 "written" P_written (sp_written K) := by
  refine F.ok sc_written (fun vs H Q E h => ?_) (fun f cdv A outer s H vs Q E hr h => ?_)
  · obtain ⟨_, _, rfl, _⟩ := h
    rfl
  obtain ⟨v, a, rfl, h1, nt, hd, hb, q⟩ := h
  refine ⟨_, (pss_cons (ps_set (i := 1) sc_written.nd rfl (Or.inl rfl) (pe_lst pa_nil))
        (pss_cons (ps_expr (pe_callD D__write (hr.mono (by first | exact Nat.le_refl _ | omega | decide)) rfl pass0 (pa_cons (pv 0) (pa_cons (pv 1) pa_nil))))
        (pss_one (ps_ret (pe_joinK K pe_str (pv 1)))))), ?_⟩
  walk_at "go"
  refine ⟨XS.sz (by simp), fun l1 hl1 => ?_⟩
  obtain ⟨e1, k1⟩ := XS.newly (o := HO.lst _) hl1
  generalize hGH1 : upd _ l1 _ = H1 at e1 k1 ⊢
  walk_at "go"
  refine ⟨v, l1, a, [], rfl, Dp.same e1 _ _ h1, k1, nt, hd, by simp only [List.length_nil]; exact Nat.le_trans (by omega) (by decide : 100000 ≤ WL), fun H2 b2 k2 => ?_⟩
  walk_at "go"
  refine ⟨⟨_, rfl⟩, ?_⟩
  walk_at "go"
  refine ⟨" ", l1, wds a, rfl, rfl, .inl (SqL.of k2), ?_, ?_⟩
  · have h2 := sum_le fun w hw => (wd_wds nt w hw).1
    have h3 : (" " : Str).length = 1 := by decide +kernel
    rw [h3]
    omega
  · exact q H2 (XS.but_same e1 b2 hl1)

abbrev s__law_sum_words : Stmt := topS 37
abbrev N__law_sum_words : List Str := ["_law_one", "_law_words_here", "_law_pair"]
abbrev P__law_sum_words : List Str := ["_law_one"]
theorem sc__law_sum_words : FnScope N__law_sum_words P__law_sum_words (defScope s__law_sum_words) := ⟨rfl, rfl, rfl, by decide +kernel, rfl, by decide +kernel, by decide +kernel⟩
theorem d__law_sum_words (F : FunAt K mg "_law_sum_words" s__law_sum_words P__law_sum_words) (Z : Bl mg) : DefAt P w K mg base CX0 1 "_law_sum_words" P__law_sum_words (sp_lsum_words K) := by
  refine F.ok sc__law_sum_words (fun vs H Q E h => ?_) (fun f cdv A outer s H vs Q E hr h => ?_)
  · obtain ⟨_, _, rfl, _⟩ := h
    rfl
  obtain ⟨v, s1, rfl, h1, ns, hb, q⟩ := h
  obtain ⟨a, b, us, rfl, a1, a2, a3⟩ := h1.sum
  have l1 := a3.len
  rw [List.length_map] at l1
  have hlen : (wSum s1).length = 2 * s1.2.length + 2 := by
    show (nS s1.1 :: (wPs s1.2 ++ [_])).length = _
    rw [List.length_cons, List.length_append, wPs_len]
    rfl
  have lg : ∀ {n : Int}, n.natAbs < 10 ^ 60 → n.natAbs.log2 < 1920 := fun h => Nat.lt_of_le_of_lt (XS.log2_mono (Nat.le_of_lt h)) (by decide)
  refine ⟨_, (pss_cons (ps_set (i := 1) sc__law_sum_words.nd rfl (Or.inl rfl) (pe_lst (pa_cons (pe_callTy call_str_int (by rfl) Z.str (by decide +kernel) (pa_cons (pe_ix (ix_tupK K) (pv 0) pe_int (fun _ _ => rfl)) pa_nil)) pa_nil)))
        (pss_cons (ps_for PassesOwn.never rfl (pi_tupK K (pe_ix (ix_tupK K) (pv 0) pe_int (fun _ _ => rfl))) (pg_name (i := 2) sc__law_sum_words.nd rfl (Or.inl rfl))
          (pss_one (ps_set (i := 1) sc__law_sum_words.nd rfl (Or.inl rfl) (pe_op op_cat (pv 1) (pe_lst (pa_cons (pe_callTy call_str_int (by rfl) Z.str (by decide +kernel) (pa_cons (pe_ix (ix_tupK K) (pv 2) pe_int (fun _ _ => rfl)) pa_nil)) (pa_cons (pe_ix (ix_tupK K) (pv 2) pe_int (fun _ _ => rfl)) pa_nil)))))))
        (pss_one (ps_ret (pe_op op_cat (pv 1) (pe_lst (pa_cons pe_str pa_nil))))))), ?_⟩
  walk_at "go"
  refine XS.x_ixT a1 (XS.atI_get (i := 0) rfl) ?_
  walk_at "go"
  refine ⟨_, rfl, lg ns.n, ?_⟩
  walk_at "go"
  refine ⟨XS.sz (by simp), fun t1 ht1 => ?_⟩
  obtain ⟨e1, k1⟩ := XS.newly (o := HO.lst _) ht1
  generalize hGH1 : upd _ t1 _ = H1 at e1 k1 ⊢
  walk_at "go"
  have k1 : H1 t1 = some (.lst ((nS s1.1 :: wPs (s1.2.take 0)).map V.str)) := by rw [k1]; simp [wPs]; rfl
  refine XS.x_ixT (e1.seqT a1) (XS.atI_get (i := 1) rfl) ?_
  refine XS.x_forT (e1.seqT a2) (fun i σ H' => ∃ (y2 : Option V) (t : Addr), σ = [some (.ref a), some (.ref t), y2] ∧ Same H H' ∧ H' t = some (.lst ((nS s1.1 :: wPs (s1.2.take i)).map V.str))) ⟨none, t1, rfl, e1, k1⟩ (fun i σ H' _ ⟨_, _, _, e, _⟩ => e.seqT a2) ?_ ?_
  · rintro i u σ H' hi ⟨y2, t, rfl, e2, k2⟩
    have hlt : i < s1.2.length := by rw [← l1]; exact (List.getElem?_eq_some_iff.mp hi).1
    have hpp : s1.2[i]? = some s1.2[i] := List.getElem?_eq_getElem hlt
    generalize s1.2[i] = pr at hpp
    have hmem := List.mem_of_getElem? hpp
    obtain ⟨c, rfl, hc⟩ := (pair_at (DpAll.same e2 _ _ a3) hpp hi).pair
    walk_at "go"
    refine XS.x_ixT hc (XS.atI_get (i := 1) rfl) ?_
    walk_at "go"
    refine ⟨_, rfl, lg (ns.p pr hmem).1, ?_⟩
    walk_at "go"
    refine XS.x_ixT hc (XS.atI_get (i := 0) rfl) ?_
    walk_at "go"
    refine ⟨XS.sz (by simp), fun t4 ht4 => ?_⟩
    obtain ⟨e4, k4⟩ := XS.newly (o := HO.lst _) ht4
    generalize hGH4 : upd _ t4 _ = H4 at e4 k4 ⊢
    walk_at "go"
    have wl := wPs_len (s1.2.take i)
    rw [List.length_take] at wl
    refine x_catL (e4 _ _ k2) k4 (by rw [List.length_map, List.length_cons]; show _ + 2 ≤ _; omega) fun t5 H5 ht5 e5 k5 => ?_
    refine ⟨_, t5, rfl, e2.trans (e4.trans e5), ?_⟩
    rw [k5, wPs_more hpp]
    show some (HO.lst ((nS s1.1 :: wPs (s1.2.take i)).map V.str ++ [nS pr.2, pr.1].map V.str)) = _
    rw [← List.map_append]
    rfl
  · rintro σ H' ⟨y2, t, rfl, e2, k2⟩
    rw [l1, List.take_length] at k2
    walk_at "go"
    refine ⟨XS.sz (by simp), fun t4 ht4 => ?_⟩
    obtain ⟨e4, k4⟩ := XS.newly (o := HO.lst _) ht4
    generalize hGH4 : upd _ t4 _ = H4 at e4 k4 ⊢
    walk_at "go"
    refine x_catL (e4 _ _ k2) k4 (by rw [List.length_map, List.length_cons, wPs_len]; show _ + 1 ≤ _; omega) fun t5 H5 ht5 e5 k5 => ?_
    refine q t5 H5 (e2.trans (e4.trans e5)) ?_
    rw [k5]
    show some (HO.lst ((nS s1.1 :: wPs s1.2).map V.str ++ [(";" : Str)].map V.str)) = _
    rw [← List.map_append]
    rfl
abbrev s__law_words : Stmt := topS 38
abbrev N__law_words : List Str := ["_law_statement", "_law_kind", "_law_words_here", "_law_part"]
abbrev P__law_words : List Str := ["_law_statement"]
theorem sc__law_words : FnScope N__law_words P__law_words (defScope s__law_words) := ⟨rfl, rfl, rfl, by decide +kernel, rfl, by decide +kernel, by decide +kernel⟩
theorem lwords_step {n : Nat} (F : FunAt K mg "_law_words" s__law_words P__law_words) (Z : Bl mg) (D__law_sum_words : DefAt P w K mg base CX0 1 "_law_sum_words" P__law_sum_words (sp_lsum_words K))
    (D__law_words : DefAt P w K mg base CX0 (n + 1) "_law_words" P__law_words (sp_lwords n K)) : DefAt P w K mg base CX0 (n + 2) "_law_words" P__law_words (sp_lwords (n + 1) K) := by
  refine F.ok sc__law_words (fun vs H Q E h => ?_) (fun f cdv A outer s H vs Q E hr h => ?_)
  · obtain ⟨_, _, rfl, _⟩ := h
    rfl
  obtain ⟨v, a, rfl, h1, nt, hd, hb, q⟩ := h
  have lg : ∀ {n : Int}, n.natAbs < 10 ^ 60 → n.natAbs.log2 < 1920 := fun h => Nat.lt_of_le_of_lt (XS.log2_mono (Nat.le_of_lt h)) (by decide)
  refine ⟨_, (pss_cons (ps_set (i := 1) sc__law_words.nd rfl (Or.inl rfl) (pe_ix (ix_tupK K) (pv 0) pe_int (fun _ _ => rfl)))
        (pss_cons (ps_if (pt_cmpR op_eq (pv 1) pe_str (nomark _))
          (pss_one (ps_ret (pe_op op_cat (pe_lst (pa_cons pe_str pa_nil)) (pe_callD D__law_words (hr.mono (by first | exact Nat.le_refl _ | omega | decide)) rfl pass0 (pa_cons (pe_ix (ix_tupK K) (pv 0) pe_int (fun _ _ => rfl)) pa_nil))))) pss_nil)
        (pss_cons (ps_if (PW.pt (pw_or (pt_cmpR op_eq (pv 1) pe_str (nomark _)) (pw_or1 (pt_cmpR op_eq (pv 1) pe_str (nomark _)))))
          (pss_one (ps_ret (pe_op op_cat (pe_lst (pa_cons (pv 1) (pa_cons (pe_ix (ix_tupK K) (pv 0) pe_int (fun _ _ => rfl)) pa_nil))) (pe_callD D__law_words (hr.mono (by first | exact Nat.le_refl _ | omega | decide)) rfl pass0 (pa_cons (pe_ix (ix_tupK K) (pv 0) pe_int (fun _ _ => rfl)) pa_nil))))) pss_nil)
        (pss_cons (ps_if (PW.pt (pw_or (pt_cmpR op_eq (pv 1) pe_str (nomark _)) (pw_or1 (pt_cmpR op_eq (pv 1) pe_str (nomark _)))))
          (pss_cons (ps_set (i := 2) sc__law_words.nd rfl (Or.inl rfl) (pe_lst (pa_cons (pv 1) (pa_cons (pe_callTy call_str_int (by rfl) Z.str (by decide +kernel) (pa_cons (pe_callB (call_lenK K) (by rfl) Z.len PySem.boot_len (pa_cons (pe_ix (ix_tupK K) (pv 0) pe_int (fun _ _ => rfl)) pa_nil)) pa_nil)) pa_nil))))
        (pss_cons (ps_for PassesOwn.never rfl (pi_tupK K (pe_ix (ix_tupK K) (pv 0) pe_int (fun _ _ => rfl))) (pg_name (i := 3) sc__law_words.nd rfl (Or.inl rfl))
          (pss_one (ps_set (i := 2) sc__law_words.nd rfl (Or.inl rfl) (pe_op op_cat (pv 2) (pe_callD D__law_words (hr.mono (by first | exact Nat.le_refl _ | omega | decide)) rfl pass0 (pa_cons (pv 3) pa_nil))))))
        (pss_one (ps_ret (pv 2))))) pss_nil)
        (pss_cons (ps_if (pt_cmpR op_eq (pv 1) pe_str (nomark _))
          (pss_one (ps_ret (pe_op op_cat (pe_lst (pa_cons pe_str (pa_cons (pe_callTy call_str_int (by rfl) Z.str (by decide +kernel) (pa_cons (pe_ix (ix_tupK K) (pv 0) pe_int (fun _ _ => rfl)) pa_nil)) pa_nil))) (pe_callD D__law_sum_words (hr.mono (by first | exact Nat.le_refl _ | omega | decide)) rfl pass0 (pa_cons (pe_ix (ix_tupK K) (pv 0) pe_int (fun _ _ => rfl)) pa_nil))))) pss_nil)
        (pss_one (ps_ret (pe_op op_cat (pe_lst (pa_cons (pv 1) pa_nil)) (pe_callD D__law_sum_words (hr.mono (by first | exact Nat.le_refl _ | omega | decide)) rfl pass0 (pa_cons (pe_ix (ix_tupK K) (pv 0) pe_int (fun _ _ => rfl)) pa_nil)))))))))), ?_⟩
  obtain ⟨p, us, rfl, hp, ds, eds, hds⟩ := Dp.stm h1
  walk_at "go"
  refine XS.x_ixT hp (XS.atI_get (i := 0) rfl) ?_
  walk_at "go"
  rw [XS.is_not]
  cases nt with
  | @above s1 ns =>
    cases eds
    cases hds with
    | cons g1 g2 =>
    cases g2
    refine XS.x_no rfl ?_
    walk_at "go"
    refine XS.x_no (by show decide (("above" : Str) = "some") = false; decide +kernel) ?_
    walk_at "go"
    refine XS.x_no (by show decide (("above" : Str) = "all") = false; decide +kernel) ?_
    walk_at "go"
    refine XS.x_no (by show decide (("above" : Str) = "and") = false; decide +kernel) ?_
    walk_at "go"
    refine XS.x_no (by show decide (("above" : Str) = "or") = false; decide +kernel) ?_
    walk_at "go"
    refine XS.x_no (by show decide (("above" : Str) = "goes") = false; decide +kernel) ?_
    walk_at "go"
    refine ⟨XS.sz (by simp), fun t1 ht1 => ?_⟩
    obtain ⟨e1, k1⟩ := XS.newly (o := HO.lst _) ht1
    generalize hGH1 : upd _ t1 _ = H1 at e1 k1 ⊢
    walk_at "go"
    refine XS.x_ixT (e1.seqT hp) (XS.atI_get (i := 1) rfl) ?_
    walk_at "go"
    refine ⟨_, s1, rfl, Dp.same e1 _ _ g1, ns, by simp only [wds, wdss, List.length_cons, List.length_append, List.length_nil, List.length_map] at hb ⊢; omega, fun t2 H2 e2 k2 => ?_⟩
    refine x_catL (e2 _ _ k1) k2 (by simp only [wds, wdss, List.length_cons, List.length_append, List.length_nil, List.length_map] at hb ⊢; omega) fun t9 H9 ht9 e9 k9 => ?_
    refine q t9 H9 (e1.trans (e2.trans e9)) ?_
    rw [k9]
    show some (HO.lst ([("above" : Str)].map V.str ++ (wSum s1).map V.str)) = _
    rw [← List.map_append]
    rfl
  | @nought s1 ns =>
    cases eds
    cases hds with
    | cons g1 g2 =>
    cases g2
    refine XS.x_no rfl ?_
    walk_at "go"
    refine XS.x_no (by show decide (("nought" : Str) = "some") = false; decide +kernel) ?_
    walk_at "go"
    refine XS.x_no (by show decide (("nought" : Str) = "all") = false; decide +kernel) ?_
    walk_at "go"
    refine XS.x_no (by show decide (("nought" : Str) = "and") = false; decide +kernel) ?_
    walk_at "go"
    refine XS.x_no (by show decide (("nought" : Str) = "or") = false; decide +kernel) ?_
    walk_at "go"
    refine XS.x_no (by show decide (("nought" : Str) = "goes") = false; decide +kernel) ?_
    walk_at "go"
    refine ⟨XS.sz (by simp), fun t1 ht1 => ?_⟩
    obtain ⟨e1, k1⟩ := XS.newly (o := HO.lst _) ht1
    generalize hGH1 : upd _ t1 _ = H1 at e1 k1 ⊢
    walk_at "go"
    refine XS.x_ixT (e1.seqT hp) (XS.atI_get (i := 1) rfl) ?_
    walk_at "go"
    refine ⟨_, s1, rfl, Dp.same e1 _ _ g1, ns, by simp only [wds, wdss, List.length_cons, List.length_append, List.length_nil, List.length_map] at hb ⊢; omega, fun t2 H2 e2 k2 => ?_⟩
    refine x_catL (e2 _ _ k1) k2 (by simp only [wds, wdss, List.length_cons, List.length_append, List.length_nil, List.length_map] at hb ⊢; omega) fun t9 H9 ht9 e9 k9 => ?_
    refine q t9 H9 (e1.trans (e2.trans e9)) ?_
    rw [k9]
    show some (HO.lst ([("nought" : Str)].map V.str ++ (wSum s1).map V.str)) = _
    rw [← List.map_append]
    rfl
  | @neg c nc =>
    cases eds
    cases hds with
    | cons g1 g2 =>
    cases g2
    refine XS.x_yes rfl ?_
    walk_at "go"
    refine ⟨XS.sz (by simp), fun t1 ht1 => ?_⟩
    obtain ⟨e1, k1⟩ := XS.newly (o := HO.lst _) ht1
    generalize hGH1 : upd _ t1 _ = H1 at e1 k1 ⊢
    walk_at "go"
    refine XS.x_ixT (e1.seqT hp) (XS.atI_get (i := 1) rfl) ?_
    walk_at "go"
    refine ⟨_, c, rfl, Dp.same e1 _ _ g1, nc, Nat.le_of_succ_le_succ hd, by simp only [wds, wdss, List.length_cons, List.length_append, List.length_nil, List.length_map] at hb ⊢; omega, fun t2 H2 e2 k2 => ?_⟩
    refine x_catL (e2 _ _ k1) k2 (by simp only [wds, wdss, List.length_cons, List.length_append, List.length_nil, List.length_map] at hb ⊢; omega) fun t9 H9 ht9 e9 k9 => ?_
    refine q t9 H9 (e1.trans (e2.trans e9)) ?_
    rw [k9]
    show some (HO.lst ([("not" : Str)].map V.str ++ (wds c).map V.str)) = _
    rw [← List.map_append]
    rfl
  | @bnd o x c hx nc =>
    cases eds
    cases hds with
    | cons g1 g2 =>
    cases g1
    cases g2 with
    | cons g2 g3 =>
    cases g3
    refine XS.x_no rfl ?_
    walk_at "go"
    have fin : tRet (tOp rCat (tLst (tCons (tVar 1) (tCons (tOp (rIxT K) (tVar 0) (tC (V.int 1))) tNil))) (tCall (sp_lwords n K) [] E0 (tCons (tOp (rIxT K) (tVar 0) (tC (V.int 2))) tNil))) { nx := fun x H' => Q V.non H', rt := Q } (List.set (L2.start N__law_words [V.ref p]) 1 (some (V.str (bndW o)))) H := by
      walk_at "go"
      refine XS.x_ixT hp (XS.atI_get (i := 1) rfl) ?_
      walk_at "go"
      refine ⟨XS.sz (by simp), fun t1 ht1 => ?_⟩
      obtain ⟨e1, k1⟩ := XS.newly (o := HO.lst _) ht1
      generalize hGH1 : upd _ t1 _ = H1 at e1 k1 ⊢
      walk_at "go"
      refine XS.x_ixT (e1.seqT hp) (XS.atI_get (i := 2) rfl) ?_
      walk_at "go"
      refine ⟨_, c, rfl, Dp.same e1 _ _ g2, nc, Nat.le_of_succ_le_succ hd, by simp only [wds, wdss, List.length_cons, List.length_append, List.length_nil, List.length_map] at hb ⊢; omega, fun t2 H2 e2 k2 => ?_⟩
      refine x_catL (e2 _ _ k1) k2 (by simp only [wds, wdss, List.length_cons, List.length_append, List.length_nil, List.length_map] at hb ⊢; omega) fun t9 H9 ht9 e9 k9 => ?_
      refine q t9 H9 (e1.trans (e2.trans e9)) ?_
      rw [k9]
      show some (HO.lst ([bndW o, x].map V.str ++ (wds c).map V.str)) = _
      rw [← List.map_append]
      rfl

    cases o with
    | true =>
      refine XS.x_no (by show decide (bndW true = "some") = false; decide +kernel) ?_
      walk_at "go"
      refine XS.x_yes (by show decide (bndW true = "all") = true; decide +kernel) ?_
      exact fin
    | false =>
      refine XS.x_yes (by show decide (bndW false = "some") = true; decide +kernel) ?_
      exact fin
  | @goes m s1 h0 hm ns =>
    cases eds
    cases hds with
    | cons g1 g2 =>
    cases g1
    cases g2 with
    | cons g2 g3 =>
    cases g3
    refine XS.x_no rfl ?_
    walk_at "go"
    refine XS.x_no (by show decide (("goes" : Str) = "some") = false; decide +kernel) ?_
    walk_at "go"
    refine XS.x_no (by show decide (("goes" : Str) = "all") = false; decide +kernel) ?_
    walk_at "go"
    refine XS.x_no (by show decide (("goes" : Str) = "and") = false; decide +kernel) ?_
    walk_at "go"
    refine XS.x_no (by show decide (("goes" : Str) = "or") = false; decide +kernel) ?_
    walk_at "go"
    refine XS.x_yes (by show decide (("goes" : Str) = "goes") = true; decide +kernel) ?_
    walk_at "go"
    refine XS.x_ixT hp (XS.atI_get (i := 1) rfl) ?_
    walk_at "go"
    refine ⟨m, rfl, lg hm, ?_⟩
    walk_at "go"
    refine ⟨XS.sz (by simp), fun t1 ht1 => ?_⟩
    obtain ⟨e1, k1⟩ := XS.newly (o := HO.lst _) ht1
    generalize hGH1 : upd _ t1 _ = H1 at e1 k1 ⊢
    walk_at "go"
    refine XS.x_ixT (e1.seqT hp) (XS.atI_get (i := 2) rfl) ?_
    walk_at "go"
    refine ⟨_, s1, rfl, Dp.same e1 _ _ g2, ns, by simp only [wds, wdss, List.length_cons, List.length_append, List.length_nil, List.length_map] at hb ⊢; omega, fun t2 H2 e2 k2 => ?_⟩
    refine x_catL (e2 _ _ k1) k2 (by simp only [wds, wdss, List.length_cons, List.length_append, List.length_nil, List.length_map] at hb ⊢; omega) fun t9 H9 ht9 e9 k9 => ?_
    refine q t9 H9 (e1.trans (e2.trans e9)) ?_
    rw [k9]
    show some (HO.lst ([("goes" : Str), nS m].map V.str ++ (wSum s1).map V.str)) = _
    rw [← List.map_append]
    rfl
  | @con o l ncs hl60 =>
    cases eds
    cases hds with
    | cons g1 g2 =>
    cases g2
    rw [toDs_map] at g1
    cases g1 with
    | tup hs ha =>
    have ln := ha.len
    rw [List.length_map] at ln
    refine XS.x_no rfl ?_
    walk_at "go"
    refine XS.x_no (by show decide (conW o = "some") = false; cases o <;> decide +kernel) ?_
    walk_at "go"
    refine XS.x_no (by show decide (conW o = "all") = false; cases o <;> decide +kernel) ?_
    walk_at "go"
    refine XS.x_2 (fun eo => ?_) (fun eo => ?_)
    case' refine_2 =>
      walk_at "go"
      refine XS.x_yes (by cases o with | true => exact absurd eo (by show ¬ (decide (conW true = "and") = false); decide +kernel) | false => (show decide (conW false = "or") = true; decide +kernel)) ?_
    all_goals
      walk_at "go"
      refine XS.x_ixT hp (XS.atI_get (i := 1) rfl) ?_
      walk_at "go"
      refine XS.x_lenT hs ?_
      rw [ln]
      walk_at "go"
      refine ⟨_, rfl, lg (by omega), ?_⟩
      walk_at "go"
      refine ⟨XS.sz (by simp), fun t1 ht1 => ?_⟩
      obtain ⟨e1, k1⟩ := XS.newly (o := HO.lst _) ht1
      generalize hGH1 : upd _ t1 _ = H1 at e1 k1 ⊢
      walk_at "go"
      have k1 : H1 t1 = some (.lst ((conW o :: nS l.length :: wdss (l.take 0)).map V.str)) := by rw [k1]; simp [wdss]; exact ⟨rfl, rfl⟩
      refine XS.x_ixT (e1.seqT hp) (XS.atI_get (i := 1) rfl) ?_
      refine XS.x_forT (e1.seqT hs) (fun i σ H' => ∃ (y3 : Option V) (t : Addr), σ = [some (.ref p), some (.str (conW o)), some (.ref t), y3] ∧ Same H H' ∧ H' t = some (.lst ((conW o :: nS l.length :: wdss (l.take i)).map V.str))) ⟨none, t1, rfl, e1, k1⟩ (fun i σ H' _ ⟨_, _, _, e, _⟩ => e.seqT hs) ?_ ?_
      · rintro i u σ H' hi ⟨y3, t, rfl, e2, k2⟩
        have hlt : i < l.length := by rw [← ln]; exact (List.getElem?_eq_some_iff.mp hi).1
        have hc : l[i]? = some l[i] := List.getElem?_eq_getElem hlt
        generalize l[i] = c at hc
        have hmem := List.mem_of_getElem? hc
        obtain ⟨dd, hdd, du⟩ := (DpAll.same e2 _ _ ha).getV hi
        rw [List.getElem?_map, hc] at hdd
        cases hdd
        have e4 : wdss (l.take (i + 1)) = wdss (l.take i) ++ wds c := by
          rw [XS.take_more hc, wdss_app]
          show _ ++ (wds c ++ []) = _
          rw [List.append_nil]
        have e5 : (wdss (l.take (i + 1))).length ≤ (wdss l).length := by
          have := congrArg (fun z => (wdss z).length) (List.take_append_drop (i + 1) l)
          simp only [wdss_app, List.length_append] at this
          omega
        rw [e4, List.length_append] at e5
        walk_at "go"
        refine ⟨u, c, rfl, du, ncs c hmem, by have := dep_in hmem; exact Nat.le_of_succ_le_succ (Nat.le_trans (Nat.succ_le_succ this) hd), by simp only [wds, wdss, List.length_cons, List.length_append, List.length_nil, List.length_map] at hb ⊢; omega, fun t5 H5 e5' k5 => ?_⟩
        refine x_catL (e5' _ _ k2) k5 (by simp only [wds, wdss, List.length_cons, List.length_append, List.length_nil, List.length_map] at hb ⊢; omega) fun t6 H6 ht6 e6 k6 => ?_
        refine ⟨_, t6, rfl, e2.trans (e5'.trans e6), ?_⟩
        rw [k6, e4, ← List.map_append]
        rfl
      · rintro σ H' ⟨y3, t, rfl, e2, k2⟩
        rw [ln, List.take_length] at k2
        walk_at "go"
        exact q t H' e2 k2
theorem lwords_all (F : FunAt K mg "_law_words" s__law_words P__law_words) (Z : Bl mg) (D__law_sum_words : DefAt P w K mg base CX0 1 "_law_sum_words" P__law_sum_words (sp_lsum_words K)) : ∀ n, DefAt P w K mg base CX0 (n + 1) "_law_words" P__law_words (sp_lwords n K)
  | 0 => F.never fun vs H Q E h => by
    obtain ⟨_, a, _, _, _, hd, _⟩ := h
    have := dep_pos a
    omega
  | n + 1 => lwords_step F Z D__law_sum_words (lwords_all F Z D__law_sum_words n)

abbrev s__law_within : Stmt := topS 39
abbrev N__law_within : List Str := ["_law_statement", "_law_kind", "_law_part"]
abbrev P__law_within : List Str := ["_law_statement"]
theorem sc__law_within : FnScope N__law_within P__law_within (defScope s__law_within) := ⟨rfl, rfl, rfl, by decide +kernel, rfl, by decide +kernel, by decide +kernel⟩
theorem lwithin_step {n : Nat} (F : FunAt K mg "_law_within" s__law_within P__law_within) (Z : Bl mg) (Z2 : Bl2 mg) (D__law_within : DefAt P w K mg base CX0 (n + 1) "_law_within" P__law_within (sp_lwithin n K)) : DefAt P w K mg base CX0 (n + 2) "_law_within" P__law_within (sp_lwithin (n + 1) K) := by
  refine F.ok sc__law_within (fun vs H Q E h => ?_) (fun f cdv A outer s H vs Q E hr h => ?_)
  · obtain ⟨_, _, rfl, _⟩ := h
    rfl
  obtain ⟨v, a, rfl, h1, hd, hb, q⟩ := h
  refine ⟨_, (pss_cons (ps_set (i := 1) sc__law_within.nd rfl (Or.inl rfl) (pe_ix (ix_tupK K) (pv 0) pe_int (fun _ _ => rfl)))
        (pss_cons (ps_if (pt_cmpR op_eq (pv 1) pe_str (nomark _))
          (pss_one (ps_ret (pe_op op_add pe_int (pe_callD D__law_within (hr.mono (by first | exact Nat.le_refl _ | omega | decide)) rfl pass0 (pa_cons (pe_ix (ix_tupK K) (pv 0) pe_int (fun _ _ => rfl)) pa_nil))))) pss_nil)
        (pss_cons (ps_if (PW.pt (pw_or (pt_cmpR op_eq (pv 1) pe_str (nomark _)) (pw_or1 (pt_cmpR op_eq (pv 1) pe_str (nomark _)))))
          (pss_one (ps_ret (pe_op op_add pe_int (pe_callD D__law_within (hr.mono (by first | exact Nat.le_refl _ | omega | decide)) rfl pass0 (pa_cons (pe_ix (ix_tupK K) (pv 0) pe_int (fun _ _ => rfl)) pa_nil))))) pss_nil)
        (pss_cons (ps_if (PW.pt (pw_or (pt_cmpR op_eq (pv 1) pe_str (nomark _)) (pw_or1 (pt_cmpR op_eq (pv 1) pe_str (nomark _)))))
          (pss_one (ps_ret (pe_op op_add pe_int (pe_callBK (cr_maxD K rfl) (by rfl) Z2.max (by decide +kernel) (pa_cons (pe_lc (own := [("_law_part", 2)]) (by rfl) sc__law_within.nd (pi_tupK K (pe_ix (ix_tupK K) (pv 0) pe_int (fun _ _ => rfl))) (blkOk_by (own := [("_law_part", 2)]) (N := N__law_within) (sc := defScope s__law_within) (by decide +kernel)) (fun _ _ _ _ _ => (pg_name (i := 2) sc__law_within.nd rfl (Or.inl rfl))) (fun _ _ _ _ _ => pts_nil) (fun _ _ _ _ _ => (pe_callD D__law_within (hr.mono (by first | exact Nat.le_refl _ | omega | decide)) rfl pass0 (pa_cons (pv 2) pa_nil)))) pa_nil) (pk_cons pe_int pk_nil))))) pss_nil)
        (pss_one (ps_ret pe_int)))))), ?_⟩
  obtain ⟨p, us, rfl, hp, ds, eds, hds⟩ := Dp.stm h1
  walk_at "go"
  refine XS.x_ixT hp (XS.atI_get (i := 0) rfl) ?_
  walk_at "go"
  rw [XS.is_not]
  cases a with
  | above s1 =>
    refine XS.x_no rfl ?_
    walk_at "go"
    refine XS.x_no (by show decide (("above" : Str) = "some") = false; decide +kernel) ?_
    walk_at "go"
    refine XS.x_no (by show decide (("above" : Str) = "all") = false; decide +kernel) ?_
    walk_at "go"
    refine XS.x_no (by show decide (("above" : Str) = "and") = false; decide +kernel) ?_
    walk_at "go"
    refine XS.x_no (by show decide (("above" : Str) = "or") = false; decide +kernel) ?_
    walk_at "go"
    exact q H (Same.refl _)
  | nought s1 =>
    refine XS.x_no rfl ?_
    walk_at "go"
    refine XS.x_no (by show decide (("nought" : Str) = "some") = false; decide +kernel) ?_
    walk_at "go"
    refine XS.x_no (by show decide (("nought" : Str) = "all") = false; decide +kernel) ?_
    walk_at "go"
    refine XS.x_no (by show decide (("nought" : Str) = "and") = false; decide +kernel) ?_
    walk_at "go"
    refine XS.x_no (by show decide (("nought" : Str) = "or") = false; decide +kernel) ?_
    walk_at "go"
    exact q H (Same.refl _)
  | goes m s1 =>
    refine XS.x_no rfl ?_
    walk_at "go"
    refine XS.x_no (by show decide (("goes" : Str) = "some") = false; decide +kernel) ?_
    walk_at "go"
    refine XS.x_no (by show decide (("goes" : Str) = "all") = false; decide +kernel) ?_
    walk_at "go"
    refine XS.x_no (by show decide (("goes" : Str) = "and") = false; decide +kernel) ?_
    walk_at "go"
    refine XS.x_no (by show decide (("goes" : Str) = "or") = false; decide +kernel) ?_
    walk_at "go"
    exact q H (Same.refl _)
  | neg c =>
    cases eds
    cases hds with
    | cons g1 g2 =>
    refine XS.x_yes rfl ?_
    walk_at "go"
    refine XS.x_ixT hp (XS.atI_get (i := 1) rfl) ?_
    walk_at "go"
    refine ⟨_, c, rfl, g1, Nat.le_of_succ_le_succ hd, by simp only [wds, wdss, List.length_cons, List.length_append, List.length_nil, List.length_map] at hb ⊢; omega, fun H1 e1 => ?_⟩
    refine ⟨_, _, rfl, rfl, ?_⟩
    have e0 : (1 : Int) + (dep c : Int) = (dep (.neg c) : Int) := by show (1 : Int) + (dep c : Int) = ((dep c + 1 : Nat) : Int); omega
    show Q (.int (1 + (dep c : Int))) H1
    rw [e0]
    exact q _ e1
  | bnd o x c =>
    cases eds
    cases hds with
    | cons g1 g2 =>
    cases g1
    cases g2 with
    | cons g2 g3 =>
    refine XS.x_no rfl ?_
    walk_at "go"
    have e0 : (1 : Int) + (dep c : Int) = (dep (.bnd o x c) : Int) := by show (1 : Int) + (dep c : Int) = ((dep c + 1 : Nat) : Int); omega
    refine XS.x_2 (fun eo => ?_) (fun eo => ?_)
    case' refine_2 =>
      walk_at "go"
      refine XS.x_yes (by cases o with | false => exact absurd eo (by show ¬ (decide (bndW false = "some") = false); decide +kernel) | true => (show decide (bndW true = "all") = true; decide +kernel)) ?_
    all_goals
      walk_at "go"
      refine XS.x_ixT hp (XS.atI_get (i := 2) rfl) ?_
      walk_at "go"
      refine ⟨_, c, rfl, g2, Nat.le_of_succ_le_succ hd, by simp only [wds, wdss, List.length_cons, List.length_append, List.length_nil, List.length_map] at hb ⊢; omega, fun H1 e1 => ?_⟩
      refine ⟨_, _, rfl, rfl, ?_⟩
      show Q (.int (1 + (dep c : Int))) H1
      rw [e0]
      exact q _ e1
  | con o l =>
    cases eds
    cases hds with
    | cons g1 g2 =>
    rw [toDs_map] at g1
    cases g1 with
    | tup hs ha =>
    have ln := ha.len
    rw [List.length_map] at ln
    have hl := wdss_len l
    have hb' : (wdss l).length ≤ 40000 := by simp only [wds, wdss, List.length_cons, List.length_append, List.length_nil, List.length_map] at hb ⊢; omega
    have hd' : deps l ≤ n := Nat.le_of_succ_le_succ hd
    have e0 : (1 : Int) + (deps l : Int) = (dep (.con o l) : Int) := by show (1 : Int) + (deps l : Int) = ((deps l + 1 : Nat) : Int); omega
    refine XS.x_no rfl ?_
    walk_at "go"
    refine XS.x_no (by show decide (conW o = "some") = false; cases o <;> decide +kernel) ?_
    walk_at "go"
    refine XS.x_no (by show decide (conW o = "all") = false; cases o <;> decide +kernel) ?_
    walk_at "go"
    refine XS.x_2 (fun eo => ?_) (fun eo => ?_)
    case' refine_2 =>
      walk_at "go"
      refine XS.x_yes (by cases o with | true => exact absurd eo (by show ¬ (decide (conW true = "and") = false); decide +kernel) | false => (show decide (conW false = "or") = true; decide +kernel)) ?_
    all_goals
      walk_at "go"
      refine XS.x_ixT hp (XS.atI_get (i := 1) rfl) ?_
      refine XS.x_lcT l _ (fun _ => true) (fun c => PyData.int (dep c)) hs ln (by omega) (fun _ => .int _) (fun i c z hi hz H1 Yes No e yes no => ?_) (fun l3 H1 acc _ e1 k1 d1 => ?_)
      · obtain ⟨dd, hdd, du⟩ := (DpAll.same e _ _ ha).getV hz
        rw [List.getElem?_map, hi] at hdd
        cases hdd
        have hmem := List.mem_of_getElem? hi
        walk_at "go"
        refine ⟨rfl, ?_⟩
        walk_at "go"
        refine ⟨z, c, rfl, du, Nat.le_trans (dep_in hmem) hd', Nat.le_trans (wdss_in hmem) hb', fun H2 e2 => ?_⟩
        exact yes _ _ e2 rfl (.int _)
      · walk_at "go"
        have ef : (l.filter fun _ => true).map (fun c => PyData.int (dep c)) = (l.map fun c => (dep c : Int)).map PyData.int := by
          rw [List.map_map, List.filter_eq_self.mpr (fun _ _ => rfl)]
          rfl
        rw [ef] at d1
        have ei := DpAll.ints d1
        subst ei
        refine ⟨l3, l.map fun c => (dep c : Int), rfl, rfl, SqL.of k1, ?_, fun n hn => ?_⟩
        · refine ⟨_, _, rfl, rfl, ?_⟩
          show Q (.int (1 + (l.map fun c => (dep c : Int)).foldr max 0)) H1
          rw [foldr_deps, e0]
          exact q _ e1
        · obtain ⟨c, _, rfl⟩ := List.mem_map.mp hn
          omega
theorem lwithin_all (F : FunAt K mg "_law_within" s__law_within P__law_within) (Z : Bl mg) (Z2 : Bl2 mg) : ∀ n, DefAt P w K mg base CX0 (n + 1) "_law_within" P__law_within (sp_lwithin n K)
  | 0 => F.never fun vs H Q E h => by
    obtain ⟨_, a, _, _, hd, _⟩ := h
    have := dep_pos a
    omega
  | n + 1 => lwithin_step F Z Z2 (lwithin_all F Z Z2 n)

abbrev s__law_number : Stmt := topS 40
abbrev N__law_number : List Str := ["_law_word", "_law_plain", "_law_sign"]
abbrev P__law_number : List Str := ["_law_word"]
theorem sc__law_number : FnScope N__law_number P__law_number (defScope s__law_number) := ⟨rfl, rfl, rfl, by decide +kernel, rfl, by decide +kernel, by decide +kernel⟩
theorem d__law_number (F : FunAt K mg "_law_number" s__law_number P__law_number) (Z : Bl mg) : DefAt P w K mg base CX0 1 "_law_number" P__law_number sp_lnumber := by
  refine F.ok sc__law_number (fun vs H Q E h => ?_) (fun f cdv A outer s H vs Q E hr h => ?_)
  · obtain ⟨_, rfl, _⟩ := h
    rfl
  obtain ⟨x, rfl, hx, q1, q2⟩ := h
  refine ⟨_, (pss_cons (ps_set (i := 1) sc__law_number.nd rfl (Or.inl rfl) (pe_slice sl_str (pv 0) (po_some (pe_callTy call_int1 (by rfl) Z.int (by decide +kernel) (pa_cons (pe_cmpR op_eq (pe_slice sl_str (pv 0) po_none (po_some pe_int)) pe_str (nomark _)) pa_nil))) po_none))
        (pss_cons (ps_if (PW.pt (pw_or (pt_cmpR op_eq (pv 1) pe_str (nomark _)) (pw_or (pt_cmpR op_gt (pe_callB call_len_str (by rfl) Z.len PySem.boot_len (pa_cons (pv 1) pa_nil)) pe_int (nomark _)) (pw_or (pt_cmpR op_eq (pv 0) pe_str (nomark _)) (pw_or1 (PW.pt (pw_and (pt_cmpR op_eq (pe_ix ix_str (pv 1) pe_int (fun _ _ => rfl)) pe_str (nomark _)) (pw_and1 (pt_cmpR op_gt (pe_callB call_len_str (by rfl) Z.len PySem.boot_len (pa_cons (pv 1) pa_nil)) pe_int (nomark _))))))))))
          (pss_one (ps_ret pe_non)) pss_nil)
        (pss_cons (ps_for PassesOwn.never rfl (pi_str (pv 1)) (pg_name (i := 2) sc__law_number.nd rfl (Or.inl rfl))
          (pss_one (ps_if (pt_cmpR op_notIn_sign (pv 2) pe_str (by rfl))
          (pss_one (ps_ret pe_non)) pss_nil)))
        (pss_one (ps_ret (pe_callTy call_int_str (by rfl) Z.int (by decide +kernel) (pa_cons (pv 0) pa_nil))))))), ?_⟩
  walk_at "go"
  refine x_slS hx ?_
  walk_at "go"
  refine .inr ⟨_, rfl, ?_⟩
  refine ⟨_, rfl, ?_⟩
  walk_at "go"
  refine x_slS hx ?_
  have ef := plain_cut x
  have hf := Nat.le_trans (cutS_length x (some (if decide (cutS x none (some 1) = Str.ofString "-") = true then (1 : Int) else 0)) none) hx
  generalize cutS x (some (if decide (cutS x none (some 1) = Str.ofString "-") = true then (1 : Int) else 0)) none = pl at ef hf ⊢
  have law := numOk_law (cs x)
  have bad : numOk (cs x) = false → Q .non H := fun h => q2 (num_none h)
  have lf : pl.length = (figs (cs x)).length := by rw [← ef, cs_len]
  walk_at "go"
  refine XS.x_d (fun c1 => ?_) (fun c1 => ?_)
  · walk_at "go"
    exact bad (by rw [law, decide_eq_false (show ¬ figs (cs x) ≠ [] from fun k => k (by rw [← ef]; exact str_empty.mp c1))]; rfl)
  have ne : figs (cs x) ≠ [] := fun k => c1 (str_empty.mpr (by rw [ef]; exact k))
  walk_at "go"
  refine ⟨pl, rfl, Nat.le_trans hf (by decide), ?_⟩
  walk_at "go"
  refine XS.x_d (fun c2 => ?_) (fun c2 => ?_)
  · walk_at "go"
    exact bad (by rw [law, decide_eq_false (show ¬ (figs (cs x)).length ≤ 60 by omega)]; simp)
  walk_at "go"
  refine XS.x_d (fun c3 => ?_) (fun c3 => ?_)
  · walk_at "go"
    exact bad (by rw [law, decide_eq_true (str_m0.mp c3)]; simp)
  obtain ⟨d0, r0, e0⟩ : ∃ d0 r0, figs (cs x) = d0 :: r0 := by
    cases h : figs (cs x) with
    | nil => exact absurd h ne
    | cons a r => exact ⟨a, r, rfl⟩
  walk_at "go"
  refine XS.x_ixS (Nat.le_trans hf (by decide)) (at0 (l := cs pl) (by rw [ef, e0])) ?_
  walk_at "go"
  have cut : (figs (cs x)).head? = some 48 ∧ 1 < (figs (cs x)).length → Q .non H := fun ⟨h1, h2⟩ => bad (by rw [law, decide_eq_true h1, decide_eq_true h2]; simp)
  have rest : ¬ ((figs (cs x)).head? = some 48 ∧ 1 < (figs (cs x)).length) → ∃ y, V.str pl = V.str y ∧ ForJ (Its y) (gName 2) (tIfS (tTest (tOp (fun x y H Q => ∃ (c : Nat) (z : Str), x = V.str ⟨#[c]⟩ ∧ y = V.str z ∧ Q (.bl (!decide (c ∈ z.cps.toList))) H) (tVar 2) (tC (V.str (Str.ofString "0123456789"))))) (tRet (tC V.non)) tNext)
      { nx := tRet (tCB (fun xs H Q => ∃ a n, xs = [V.str a] ∧ intText? a = some n ∧ a.length ≤ 640 ∧ Q (V.int n) H) (tCons (tVar 0) tNil)) { nx := fun x H' => Q V.non H', rt := Q }, rt := ({ nx := fun x H' => Q V.non H', rt := Q } : Ends).rt } (List.set (L2.start N__law_number [V.str x]) 1 (some (V.str pl))) H := fun h48 => by
    refine x_forS (fun i σ H2 => ∃ y2 : Option V, σ = [some (.str x), some (.str pl), y2] ∧ H2 = H ∧ ((figs (cs x)).take i).all dig = true) ⟨none, rfl, rfl, rfl⟩ ?_ ?_
    · rintro i c σ H2 hi ⟨y2, rfl, rfl, al⟩
      rw [ef] at hi
      walk_at "go"
      refine ⟨c, "0123456789", rfl, rfl, ?_⟩
      rw [dig_mem]
      refine ⟨_, rfl, ?_⟩
      cases hc : dig c with
      | false =>
        refine XS.x_yes rfl ?_
        walk_at "go"
        exact bad (by rw [law, all_not hi hc, Bool.and_false])
      | true =>
        refine XS.x_no rfl ?_
        walk_at "go"
        exact ⟨_, rfl, rfl, all_more al hi hc⟩
    · rintro σ H2 ⟨y2, rfl, rfl, al⟩
      rw [ef, List.take_length] at al
      walk_at "go"
      have ok : numOk (cs x) = true := by
        rw [law, al, decide_eq_true ne, decide_eq_true (show (figs (cs x)).length ≤ 60 by omega), decide_eq_false (show ¬ cs x = [45, 48] from fun k => c3 (str_m0.mpr k)), ← Bool.decide_and, decide_eq_false h48]
        rfl
      obtain ⟨n, h1, h2⟩ := num_some ok
      exact ⟨x, n, rfl, h1, by have := num_len ok; omega, q1 n h2⟩
  refine XS.x_d (fun c4 => ?_) (fun c4 => ?_)
  · have h48 : (figs (cs x)).head? = some 48 := by rw [e0, one_eq.mp c4]; rfl
    walk_at "go"
    refine ⟨pl, rfl, Nat.le_trans hf (by decide), ?_⟩
    walk_at "go"
    refine XS.x_d (fun c5 => ?_) (fun c5 => ?_)
    · walk_at "go"
      exact cut ⟨h48, by omega⟩
    · walk_at "go"
      exact rest fun h => c5 (by omega)
  · walk_at "go"
    exact rest fun h => c4 (one_eq.mpr (by have := h.1; rw [e0] at this; cases this; rfl))
abbrev s__law_is_name : Stmt := topS 41
abbrev N__law_is_name : List Str := ["_law_word", "_law_sign"]
abbrev P__law_is_name : List Str := ["_law_word"]
theorem sc__law_is_name : FnScope N__law_is_name P__law_is_name (defScope s__law_is_name) := ⟨rfl, rfl, rfl, by decide +kernel, rfl, by decide +kernel, by decide +kernel⟩
theorem d__law_is_name (F : FunAt K mg "_law_is_name" s__law_is_name P__law_is_name) (Z : Bl mg) : DefAt P w K mg base CX0 1 "_law_is_name" P__law_is_name sp_lname := by
  refine F.ok sc__law_is_name (fun vs H Q E h => ?_) (fun f cdv A outer s H vs Q E hr h => ?_)
  · obtain ⟨_, rfl, _⟩ := h
    rfl
  obtain ⟨x, rfl, hx, q⟩ := h
  refine ⟨_, (pss_cons (ps_for PassesOwn.never rfl (pi_str (pv 0)) (pg_name (i := 1) sc__law_is_name.nd rfl (Or.inl rfl))
          (pss_one (ps_if (pt_cmpR op_notIn_sign (pv 1) pe_str (by rfl))
          (pss_one (ps_ret pe_bl)) pss_nil)))
        (pss_one (ps_ret (pe_and (pe_cmpR op_lt pe_int (pe_callB call_len_str (by rfl) Z.len PySem.boot_len (pa_cons (pv 0) pa_nil)) (nomark _)) (pe_one (pe_cmpR op_lt (pe_callB call_len_str (by rfl) Z.len PySem.boot_len (pa_cons (pv 0) pa_nil)) pe_int (nomark _))))))), ?_⟩
  have ok : nameOk (cs x) = (decide (1 ≤ (cs x).length ∧ (cs x).length ≤ 8) && (cs x).all low) := by
    unfold nameOk
    rw [← Bool.decide_and]
  have lx := cs_len x
  walk_at "go"
  refine x_forS (fun i σ H2 => ∃ y2 : Option V, σ = [some (.str x), y2] ∧ H2 = H ∧ ((cs x).take i).all low = true) ⟨none, rfl, rfl, rfl⟩ ?_ ?_
  · rintro i c σ H2 hi ⟨y2, rfl, rfl, al⟩
    walk_at "go"
    refine ⟨c, "abcdefghijklmnopqrstuvwxyz", rfl, rfl, ?_⟩
    rw [low_mem]
    refine ⟨_, rfl, ?_⟩
    cases hc : low c with
    | false =>
      refine XS.x_yes rfl ?_
      walk_at "go"
      rw [ok, all_not hi hc, Bool.and_false] at q
      exact q
    | true =>
      refine XS.x_no rfl ?_
      walk_at "go"
      exact ⟨_, rfl, rfl, all_more al hi hc⟩
  · rintro σ H2 ⟨y2, rfl, rfl, al⟩
    rw [List.take_length] at al
    walk_at "go"
    refine ⟨x, rfl, Nat.le_trans hx (by decide), ?_⟩
    refine ⟨_, _, rfl, rfl, _, rfl, ?_⟩
    rw [ok, al, Bool.and_true] at q
    by_cases h0 : (0 : Int) < (x.length : Int)
    · rw [if_pos (decide_eq_true h0)]
      walk_at "go"
      refine ⟨x, rfl, Nat.le_trans hx (by decide), ?_⟩
      refine ⟨_, _, rfl, rfl, ?_⟩
      have e : decide (1 ≤ (cs x).length ∧ (cs x).length ≤ 8) = decide ((x.length : Int) < 9) := decide_eq_decide.mpr (by omega)
      rw [e] at q
      exact q
    · rw [if_neg (by rw [decide_eq_false h0]; decide)]
      have e : decide (1 ≤ (cs x).length ∧ (cs x).length ≤ 8) = false := decide_eq_false (by omega)
      rw [e] at q
      exact q

abbrev s__law_sum_along : Stmt := topS 42
abbrev N__law_sum_along : List Str := ["_law_words_here", "_law_parts", "_law_spot", "_law_by", "_law_name"]
abbrev P__law_sum_along : List Str := ["_law_words_here"]
theorem sc__law_sum_along : FnScope N__law_sum_along P__law_sum_along (defScope s__law_sum_along) := ⟨rfl, rfl, rfl, by decide +kernel, rfl, by decide +kernel, by decide +kernel⟩
theorem d__law_sum_along (F : FunAt K mg "_law_sum_along" s__law_sum_along P__law_sum_along) (Z : Bl mg) (D__law_number : DefAt P w K mg base CX0 1 "_law_number" P__law_number sp_lnumber) (D__law_is_name : DefAt P w K mg base CX0 1 "_law_is_name" P__law_is_name sp_lname) :
    DefAt P w K mg base CX0 2 "_law_sum_along" P__law_sum_along (sp_lsum_along K) := by
  refine F.ok sc__law_sum_along (fun vs H Q E h => ?_) (fun f cdv A outer s H vs Q E hr h => ?_)
  · obtain ⟨_, _, rfl, _⟩ := h
    rfl
  obtain ⟨p, ws, rfl, hw, q1, q2⟩ := h
  have hn := hw.n
  refine ⟨_, (pss_cons (ps_set (i := 1) sc__law_sum_along.nd rfl (Or.inl rfl) (pe_lst pa_nil))
        (pss_cons (ps_set (i := 2) sc__law_sum_along.nd rfl (Or.inl rfl) pe_int)
        (Evl.pss_cut (ps_while PassesOwn.never (PW.pt (pw_and (pt_cmpR op_lt (pv 2) (pe_callB (call_lenK K) (by rfl) Z.len PySem.boot_len (pa_cons (pv 0) pa_nil)) (nomark _)) (pw_and1 (pt_cmpR op_ne (pe_ix (ix_listK K) (pv 0) (pv 2) (fun _ _ => rfl)) pe_str (nomark _)))))
          (pss_cons (ps_set (i := 3) sc__law_sum_along.nd rfl (Or.inl rfl) (pe_callD D__law_number (hr.mono (by first | exact Nat.le_refl _ | omega | decide)) rfl pass0 (pa_cons (pe_ix (ix_listK K) (pv 0) (pv 2) (fun _ _ => rfl)) pa_nil)))
        (pss_cons (ps_set (i := 4) sc__law_sum_along.nd rfl (Or.inl rfl) (pe_ix (ix_listK K) (pe_op op_cat (pv 0) (pe_lst (pa_cons pe_str pa_nil))) (pe_op op_add (pv 2) pe_int) (fun _ _ => rfl)))
        (Evl.pss_cut (ps_if (PW.pt (pw_or (pt_cmpR op_isN (pv 3) pe_non (nomark _)) (pw_or (pt_cmpR op_eq (pv 3) pe_int (nomark _)) (pw_or (pt_not (pt_val (pe_callD D__law_is_name (hr.mono (by first | exact Nat.le_refl _ | omega | decide)) rfl pass0 (pa_cons (pv 4) pa_nil)))) (pw_or1 (PW.pt (pw_and (pt_cmpR (op_neM K hr.units) (pv 1) (pe_lst pa_nil) (nomark _)) (pw_and1 (pt_cmpR op_le_str (pv 4) (pe_ix (ix_tupK K) (pe_ix (ix_listK K) (pv 1) (pe_un un_neg pe_int) (fun _ _ => rfl)) pe_int (fun _ _ => rfl)) (nomark _))))))))))
          (pss_one (ps_ret pe_non)) pss_nil)
        (pss_cons (ps_expr (pe_bm PySem.F.plainAttrs_list PySem.F.slot_list_append PySem.F.type_list_append mt_append (pv 1) (pa_cons (pe_tup (pa_cons (pv 4) (pa_cons (pv 3) pa_nil))) pa_nil)))
        (pss_one (ps_set (i := 2) sc__law_sum_along.nd rfl (Or.inl rfl) (pe_op op_add (pv 2) pe_int))))))))
        (pss_cons (ps_if (PW.pt (pw_or (pt_cmpR op_ge (pv 2) (pe_callB (call_lenK K) (by rfl) Z.len PySem.boot_len (pa_cons (pv 0) pa_nil)) (nomark _)) (pw_or1 (pt_cmpR op_isN (pe_callD D__law_number (hr.mono (by first | exact Nat.le_refl _ | omega | decide)) rfl pass0 (pa_cons (pe_ix (ix_listK K) (pv 0) pe_int (fun _ _ => rfl)) pa_nil)) pe_non (nomark _)))))
          (pss_one (ps_ret pe_non)) pss_nil)
        (pss_one (ps_ret (pe_tup (pa_cons (pe_tup (pa_cons (pe_callD D__law_number (hr.mono (by first | exact Nat.le_refl _ | omega | decide)) rfl pass0 (pa_cons (pe_ix (ix_listK K) (pv 0) pe_int (fun _ _ => rfl)) pa_nil)) (pa_cons (pe_callTy (call_tupK K) (by rfl) Z.tuple (by decide +kernel) (pa_cons (pv 1) pa_nil)) pa_nil))) (pa_cons (pe_slice (sl_listK K) (pv 0) (po_some (pe_op op_add (pv 2) pe_int)) po_none) pa_nil))))))))), ?_⟩
  walk_at "go"
  refine ⟨XS.sz (by simp), fun l1 hl1 => ?_⟩
  obtain ⟨e1, k1⟩ := XS.newly (o := HO.lst _) hl1
  generalize hGH1 : upd _ l1 _ = H1 at e1 k1 ⊢
  walk_at "go"
  have sof : Sofar 0 ((pPs none (ws.drop 1)).map fun (q : List Pr × List Str) => ((0, q.1), q.2)) [] (ws.drop 1) := rfl
  have g0 : ((pPs none (ws.drop 1)).map fun (q : List Pr × List Str) => (((0 : Int), q.1), q.2)) = none → pSum ws = none := fun h => pSum_of0 (by
    cases e : pPs none (ws.drop 1) with
    | none => rfl
    | some q => rw [e] at h; cases h)
  have g1 : ∀ (w0 : Str) (k : Int) (ps : List Pr) (r : List Str), ws[0]? = some w0 → num w0 = some k → ((pPs none (ws.drop 1)).map fun (q : List Pr × List Str) => (((0 : Int), q.1), q.2)) = some ((0, ps), r) → pSum ws = some ((k, ps), r) := fun w0 k ps r h0 hk h => by
    have e := drop_at h0
    rw [List.drop_zero] at e
    rw [e, pSum_go hk]
    cases e2 : pPs none (ws.drop 1) with
    | none => rw [e2] at h; cases h
    | some q =>
      rw [e2] at h
      cases h
      rfl
  generalize ((pPs none (ws.drop 1)).map fun (q : List Pr × List Str) => (((0 : Int), q.1), q.2)) = got at sof g0 g1
  refine XS.x_cut (fun σ H' => ∃ (j : Nat) (acc : List V) (ps : List Pr) (y3 y4 : Option V), σ = [some (.ref p), some (.ref l1), some (.int j), y3, y4] ∧ Same H H' ∧ H' l1 = some (.lst acc) ∧ DpAll K H' acc (ps.map prT) ∧ 1 ≤ j ∧ Sofar 0 got ps (ws.drop j) ∧ j ≤ ws.length + 2 ∧ ∀ x2, ws[j]? = some x2 → x2 = ";") ?_ ?_
  · refine ⟨fun n σ H' => ∃ (j : Nat) (acc : List V) (ps : List Pr) (y3 y4 : Option V), σ = [some (.ref p), some (.ref l1), some (.int j), y3, y4] ∧ Same H H' ∧ H' l1 = some (.lst acc) ∧ DpAll K H' acc (ps.map prT) ∧ 1 ≤ j ∧ Sofar 0 got ps (ws.drop j) ∧ ps.length ≤ j ∧ j ≤ ws.length + 2 ∧ n = ws.length + 2 - j,
      ⟨_, 1, [], [], none, none, rfl, e1, k1, .nil, Nat.le_refl _, sof, by simp, by omega, rfl⟩, ?_⟩
    rintro n σ H2 ⟨j, acc, ps, y3, y4, rfl, e2, k2, d2, h1j, sof, hps, hjn, rfl⟩
    have hw2 := hw.same e2
    have no : got = none → Q .non H2 := fun h => q2 (g0 h) H2 e2
    walk_at "go"
    refine XS.x_lenL (SqL.of hw2.l) ?_
    rw [List.length_map]
    walk_at "go"
    refine XS.x_d (fun c => ?_) (fun c => ?_)
    · have hx2 : ws[j]? = some ws[j] := List.getElem?_eq_getElem (by omega)
      generalize ws[j] = x2 at hx2
      have hj : j < ws.length := by omega
      walk_at "go"
      refine XS.x_ixL (SqL.of hw2.l) (XS.atI_get (i := j) (v := .str x2) (by rw [List.getElem?_map, hx2]; rfl)) ?_
      walk_at "go"
      refine XS.x_dn (fun c2 => ?_) (fun c2 => ?_)
      · rw [drop_at hx2] at sof
        refine ⟨fun σ' H' => ∃ (acc2 : List V) (ps2 : List Pr) (y3 y4 : Option V), σ' = [some (.ref p), some (.ref l1), some (.int (j + 2 : Nat)), y3, y4] ∧ Same H H' ∧ H' l1 = some (.lst acc2) ∧ DpAll K H' acc2 (ps2.map prT) ∧ Sofar 0 got ps2 (ws.drop (j + 2)) ∧ ps2.length ≤ j + 2,
          fun σ' H' ⟨acc2, ps2, y3, y4, e, a1, a2, a3, a5, a6⟩ => ⟨ws.length + 2 - (j + 2), by omega, j + 2, acc2, ps2, y3, y4, e, a1, a2, a3, by omega, a5, a6, by omega, rfl⟩, ?_⟩
        obtain ⟨x3, hx3⟩ : ∃ x3, (ws ++ [("" : Str)])[j + 1]? = some x3 := ⟨_, List.getElem?_eq_getElem (by simp; omega)⟩
        have w3 : x3.length ≤ WL := by
          rcases List.mem_append.mp (List.mem_of_getElem? hx3) with h | h
          · exact hw.w _ h
          · rw [List.mem_singleton.mp h]; decide +kernel
        walk_at "go"
        refine XS.x_ixL (SqL.of hw2.l) (XS.atI_get (i := j) (v := .str x2) (by rw [List.getElem?_map, hx2]; rfl)) ?_
        walk_at "go"
        refine ⟨x2, rfl, hw.w x2 (List.mem_of_getElem? hx2), fun m hm => ?_, fun hm => ?_⟩
        rotate_left
        · have bad : got = none := by rw [sof, pPs_num c2 hm]; rfl
          walk_at "go"
          refine ⟨XS.sz (by simp), fun t4 ht4 => ?_⟩
          obtain ⟨e4, k4⟩ := XS.newly (o := HO.lst _) ht4
          generalize hGH4 : upd _ t4 _ = H4 at e4 k4 ⊢
          walk_at "go"
          refine x_catL (e4 _ _ hw2.l) k4 (by rw [List.length_map]; exact Nat.le_trans (by show _ ≤ 1000001; simp; omega) (by decide : 1000001 ≤ WL)) fun t5 H5 ht5 e5 k5 => ?_
          walk_at "go"
          refine XS.x_ixL (SqL.of k5) (XS.atI_get (i := j + 1) (v := .str x3) (by rw [show ws.map V.str ++ [V.str ""] = (ws ++ [("" : Str)]).map V.str by simp, List.getElem?_map, hx3]; rfl)) ?_
          have e45 := e4.trans e5
          walk_at "go"
          refine XS.x_cut (fun _ _ => False) ?_ (fun _ _ h => h.elim)
          walk_at "go"
          refine ⟨rfl, ?_⟩
          rw [decide_eq_true rfl]
          walk_at "go"
          exact q2 (g0 bad) H5 (e2.trans e45)
        · have bad : ¬ (nameOk (cs x3) = true ∧ m ≠ 0 ∧ ∀ y, lastP ps = some y → slt y x3) → got = none := fun h => by
            rw [sof]
            rcases Nat.lt_or_ge (j + 1) ws.length with hlt | hge
            · rw [List.getElem?_append_left hlt] at hx3
              rw [drop_at hx3, pPs_bad c2 hm h]
              rfl
            · rw [drop_out hge, pPs_one c2]
              rfl
          walk_at "go"
          refine ⟨XS.sz (by simp), fun t4 ht4 => ?_⟩
          obtain ⟨e4, k4⟩ := XS.newly (o := HO.lst _) ht4
          generalize hGH4 : upd _ t4 _ = H4 at e4 k4 ⊢
          walk_at "go"
          refine x_catL (e4 _ _ hw2.l) k4 (by rw [List.length_map]; exact Nat.le_trans (by show _ ≤ 1000001; simp; omega) (by decide : 1000001 ≤ WL)) fun t5 H5 ht5 e5 k5 => ?_
          walk_at "go"
          refine XS.x_ixL (SqL.of k5) (XS.atI_get (i := j + 1) (v := .str x3) (by rw [show ws.map V.str ++ [V.str ""] = (ws ++ [("" : Str)]).map V.str by simp, List.getElem?_map, hx3]; rfl)) ?_
          have e45 := e4.trans e5
          walk_at "go"
          refine XS.x_cut (fun σ H' => σ = [some (.ref p), some (.ref l1), some (.int j), some (.int m), some (.str x3)] ∧ Same H5 H' ∧ nameOk (cs x3) = true ∧ m ≠ 0 ∧ ∀ y, lastP ps = some y → slt y x3) ?_ ?_
          · walk_at "go"
            refine ⟨rfl, ?_⟩
            rw [decide_eq_false (by simp)]
            walk_at "go"
            refine XS.x_d (fun c0 => ?_) (fun c0 => ?_)
            · walk_at "go"
              exact q2 (g0 (bad fun h => h.2.1 c0)) H5 (e2.trans e45)
            walk_at "go"
            refine ⟨x3, rfl, w3, ?_⟩
            cases hx3n : nameOk (cs x3) with
            | false =>
              walk_at "go"
              exact q2 (g0 (bad fun h => by rw [hx3n] at h; cases h.1)) H5 (e2.trans e45)
            | true =>
              walk_at "go"
              refine ⟨XS.sz (by simp), fun t6 ht6 => ?_⟩
              obtain ⟨e6, k6⟩ := XS.newly (o := HO.lst _) ht6
              generalize hGH6 : upd _ t6 _ = H6 at e6 k6 ⊢
              walk_at "go"
              have k26 := e6 _ _ (e45 _ _ k2)
              have d26 := DpAll.same (e45.trans e6) _ _ d2
              refine x_neP (SqL.of k26) d26 (SqL.of k6) ?_
              rcases List.eq_nil_or_concat ps with rfl | ⟨ps0, q0, rfl⟩
              · walk_at "go"
                exact ⟨rfl, e6, rfl, c0, fun y hy => by cases hy⟩
              · have en : (!(ps0.concat q0).isEmpty) = true := by cases ps0 <;> rfl
                rw [en]
                rw [List.concat_eq_append, List.map_append] at d26
                obtain ⟨hd, u, rfl, ud⟩ : ∃ hd u, acc = hd ++ [u] ∧ Dp K H6 u (prT q0) := dpLast d26
                walk_at "go"
                refine XS.x_ixL (SqL.of k26) XS.atI_last ?_
                obtain ⟨c3, rfl, hc3⟩ := ud.pair
                walk_at "go"
                refine XS.x_ixT hc3 (XS.atI_get (i := 0) rfl) ?_
                refine ⟨_, _, rfl, rfl, ?_⟩
                have el : lastP (ps0.concat q0) = some q0.1 := by unfold lastP; simp
                have es : decide (q0.1.cps.toList < x3.cps.toList) = decide (slt q0.1 x3) := decide_eq_decide.mpr XS.slt_lt.symm
                rw [es]
                walk_at "go"
                refine XS.x_dn (fun cc => ?_) (fun cc => ?_)
                · walk_at "go"
                  exact q2 (g0 (bad fun h => cc (h.2.2 _ el))) H6 (e2.trans (e45.trans e6))
                · walk_at "go"
                  exact ⟨rfl, e6, rfl, c0, fun y hy => by rw [el] at hy; cases hy; exact cc⟩
          · rintro σ H6 ⟨rfl, e6, hx3n, c0, hl⟩
            walk_at "go"
            have hj1 : j + 1 < ws.length := by
              rcases Nat.lt_or_ge (j + 1) ws.length with h | h
              · exact h
              · rw [List.getElem?_append_right h] at hx3
                have : x3 = "" := List.mem_singleton.mp (List.mem_of_getElem? hx3)
                rw [this] at hx3n
                exact absurd hx3n (by decide +kernel)
            rw [List.getElem?_append_left hj1] at hx3
            rw [drop_at hx3] at sof
            have k26 := e6 _ _ (e45 _ _ k2)
            have d26 := DpAll.same (e45.trans e6) _ _ d2
            refine XS.x_tyL' (XS.x_tyL k26) ?_
            walk_at "go"
            refine ⟨XS.sz (by simp), fun t7 ht7 => ?_⟩
            obtain ⟨e7, k7⟩ := XS.newly (o := HO.tup _) ht7
            generalize hGH7 : upd _ t7 _ = H7 at e7 k7 ⊢
            walk_at "go"
            have k27 := e7 _ _ k26
            have acl : acc.length ≤ WL := by
              have := d2.len
              rw [List.length_map] at this
              exact Nat.le_trans (by omega : acc.length ≤ 1000002) (by decide)
            have kk := keeps_lst (ys := acc ++ [.ref t7]) k27
            refine XS.x_app k27 (Nat.lt_of_le_of_lt acl (by decide)) ?_
            walk_at "go"
            refine ⟨acc ++ [.ref t7], ps ++ [(x3, m)], _, _, rfl, XS.same_mut (e2.trans (e45.trans (e6.trans e7))) hl1, upd_same, ?_, sof.more c2 hm hx3n c0 hl, by simp; omega⟩
            rw [List.map_append]
            refine (DpAll.keeps kk _ _ (fun d hd => ?_) (DpAll.same e7 _ _ d26)).app (.one (Dp.keeps kk _ _ (im_pair (x3, m)) (Dp.mkPair (p := (x3, m)) (SqT.of k7))))
            obtain ⟨z, _, rfl⟩ := List.mem_map.mp hd
            exact im_pair z
      · subst c2
        walk_at "go"
        exact ⟨j, acc, ps, y3, y4, rfl, e2, k2, d2, h1j, sof, hjn, fun x h => by rw [hx2] at h; cases h; rfl⟩
    · walk_at "go"
      exact ⟨j, acc, ps, y3, y4, rfl, e2, k2, d2, h1j, sof, hjn, fun x h => by have := (List.getElem?_eq_some_iff.mp h).1; omega⟩
  rintro σ H2 ⟨j, acc, ps, y3, y4, rfl, e2, k2, d2, h1j, sof, hjn, stop⟩
  have hw2 := hw.same e2
  walk_at "go"
  refine XS.x_lenL (SqL.of hw2.l) ?_
  rw [List.length_map]
  walk_at "go"
  refine XS.x_d (fun c => ?_) (fun c => ?_)
  · walk_at "go"
    exact q2 (g0 (by rw [sof, drop_out (by omega)]; rfl)) H2 e2
  have hx2 : ws[j]? = some ws[j] := List.getElem?_eq_getElem (by omega)
  have e59 := stop _ hx2
  rw [e59] at hx2
  rw [drop_at hx2] at sof
  have hx0 : ws[0]? = some ws[0] := List.getElem?_eq_getElem (by omega)
  generalize ws[0] = w0 at hx0
  have w0l := hw.w w0 (List.mem_of_getElem? hx0)
  walk_at "go"
  refine XS.x_ixL (SqL.of hw2.l) (XS.atI_get (i := 0) (v := .str w0) (by rw [List.getElem?_map, hx0]; rfl)) ?_
  walk_at "go"
  refine ⟨w0, rfl, w0l, fun k hk => ?_, fun hk => ?_⟩
  · walk_at "go"
    refine ⟨rfl, ?_⟩
    rw [decide_eq_false (by simp)]
    walk_at "go"
    refine XS.x_ixL (SqL.of hw2.l) (XS.atI_get (i := 0) (v := .str w0) (by rw [List.getElem?_map, hx0]; rfl)) ?_
    walk_at "go"
    refine ⟨w0, rfl, w0l, fun k' hk' => ?_, fun hk' => by rw [hk] at hk'; cases hk'⟩
    rw [hk] at hk'
    cases hk'
    walk_at "go"
    refine XS.x_tupL (SqL.of k2) fun t6 H6 ht6 e6 k6 => ?_
    walk_at "go"
    refine ⟨XS.sz (by simp), fun t7 ht7 => ?_⟩
    obtain ⟨e7, k7⟩ := XS.newly (o := HO.tup _) ht7
    generalize hGH7 : upd _ t7 _ = H7 at e7 k7 ⊢
    walk_at "go"
    refine x_from (k := j + 1) (SqL.of ((e6.trans e7) _ _ hw2.l)) fun t8 H8 ht8 e8 k8 => ?_
    walk_at "go"
    refine ⟨XS.sz (by simp), fun t9 ht9 => ?_⟩
    obtain ⟨e9, k9⟩ := XS.newly (o := HO.tup _) ht9
    refine q1 (k, ps) (ws.drop (j + 1)) (g1 w0 k ps _ hx0 hk (by rw [sof]; show some ((0, ps ++ []), _) = _; rw [List.append_nil])) t7 t9 t8 _ (e2.trans (e6.trans (e7.trans (e8.trans e9)))) (none_back (e2.trans (e6.trans e7)) ht8) ?_ (SqT.of k9) ?_
    · exact Dp.mkSum (s := (k, ps)) ((e8.trans e9).seqT (SqT.of k7)) ((e7.trans (e8.trans e9)).seqT (SqT.of k6)) (DpAll.same (e6.trans (e7.trans (e8.trans e9))) _ _ d2)
    · rw [e9 _ _ k8, List.map_drop]
  · walk_at "go"
    refine ⟨rfl, ?_⟩
    rw [decide_eq_true rfl]
    walk_at "go"
    refine q2 ?_ H2 e2
    have e := drop_at hx0
    rw [List.drop_zero] at e
    rw [e, pSum_num hk]

abbrev s__law_parts_along : Stmt := topS 43
abbrev N__law_parts_along : List Str := ["_law_words_here", "_law_within_here", "_law_count", "_law_rest_of", "_law_parts", "_law_got"]
abbrev P__law_parts_along : List Str := ["_law_words_here", "_law_within_here"]
theorem sc__law_parts_along : FnScope N__law_parts_along P__law_parts_along (defScope s__law_parts_along) := ⟨rfl, rfl, rfl, by decide +kernel, rfl, by decide +kernel, by decide +kernel⟩
theorem d__law_parts_along {n : Nat} (F : FunAt K mg "_law_parts_along" s__law_parts_along P__law_parts_along) (Z : Bl mg) (D__law_number : DefAt P w K mg base CX0 1 "_law_number" P__law_number sp_lnumber)
    (D__law_along : DefAt P w K mg base CX0 (2 * n + 3) "_law_along" P__law_along (sp_lalong n K)) : DefAt P w K mg base CX0 (2 * n + 4) "_law_parts_along" P__law_parts_along (sp_lparts n K) := by
  refine F.ok sc__law_parts_along (fun vs H Q E h => ?_) (fun f cdv A outer s H vs Q E hr h => ?_)
  · obtain ⟨_, _, rfl, _⟩ := h
    rfl
  obtain ⟨p, ws, rfl, hw, hn40, q1, q2⟩ := h
  have hn := hw.n
  refine ⟨_, (pss_cons (ps_set (i := 2) sc__law_parts_along.nd rfl (Or.inl rfl) (pe_callD D__law_number (hr.mono (by first | exact Nat.le_refl _ | omega | decide)) rfl pass0 (pa_cons (pe_ix (ix_listK K) (pe_op op_cat (pv 0) (pe_lst (pa_cons pe_str pa_nil))) pe_int (fun _ _ => rfl)) pa_nil)))
        (pss_cons (ps_if (PW.pt (pw_or (pt_cmpR op_isN (pv 2) pe_non (nomark _)) (pw_or1 (pt_cmpR op_lt (pv 2) pe_int (nomark _)))))
          (pss_one (ps_ret pe_non)) pss_nil)
        (pss_cons (ps_set (i := 3) sc__law_parts_along.nd rfl (Or.inl rfl) (pe_slice (sl_listK K) (pv 0) (po_some pe_int) po_none))
        (pss_cons (ps_set (i := 4) sc__law_parts_along.nd rfl (Or.inl rfl) (pe_lst pa_nil))
        (pss_cons (ps_while PassesOwn.never (pt_cmpR op_lt (pe_callB (call_lenK K) (by rfl) Z.len PySem.boot_len (pa_cons (pv 4) pa_nil)) (pv 2) (nomark _))
          (pss_cons (ps_set (i := 5) sc__law_parts_along.nd rfl (Or.inl rfl) (pe_callD D__law_along (hr.mono (by first | exact Nat.le_refl _ | omega | decide)) rfl pass0 (pa_cons (pv 3) (pa_cons (pv 1) pa_nil))))
        (pss_cons (ps_if (pt_cmpR op_isN (pv 5) pe_non (nomark _))
          (pss_one (ps_ret pe_non)) pss_nil)
        (pss_cons (ps_expr (pe_bm PySem.F.plainAttrs_list PySem.F.slot_list_append PySem.F.type_list_append mt_append (pv 4) (pa_cons (pe_ix (ix_tupK K) (pv 5) pe_int (fun _ _ => rfl)) pa_nil)))
        (pss_one (ps_set (i := 3) sc__law_parts_along.nd rfl (Or.inl rfl) (pe_ix (ix_tupK K) (pv 5) pe_int (fun _ _ => rfl))))))))
        (pss_one (ps_ret (pe_tup (pa_cons (pe_callTy (call_tupK K) (by rfl) Z.tuple (by decide +kernel) (pa_cons (pv 4) pa_nil)) (pa_cons (pv 3) pa_nil)))))))))), ?_⟩
  obtain ⟨x, hx⟩ : ∃ x, (ws ++ [("" : Str)])[0]? = some x := ⟨_, List.getElem?_eq_getElem (by simp)⟩
  have w0 : x.length ≤ WL := by
    rcases List.mem_append.mp (List.mem_of_getElem? hx) with h | h
    · exact hw.w _ h
    · rw [List.mem_singleton.mp h]; decide +kernel
  walk_at "go"
  refine ⟨XS.sz (by simp), fun t4 ht4 => ?_⟩
  obtain ⟨e4, k4⟩ := XS.newly (o := HO.lst _) ht4
  generalize hGH4 : upd _ t4 _ = H4 at e4 k4 ⊢
  walk_at "go"
  refine x_catL (e4 _ _ hw.l) k4 (by rw [List.length_map]; exact Nat.le_trans (by show _ ≤ 1000001; simp; omega) (by decide : 1000001 ≤ WL)) fun t5 H5 ht5 e5 k5 => ?_
  walk_at "go"
  refine XS.x_ixL (SqL.of k5) (XS.atI_get (i := 0) (v := .str x) (by rw [show ws.map V.str ++ [V.str ""] = (ws ++ [("" : Str)]).map V.str by simp, List.getElem?_map, hx]; rfl)) ?_
  have e45 := e4.trans e5
  walk_at "go"
  refine ⟨x, rfl, w0, fun k hk => ?_, fun hk => ?_⟩
  rotate_left
  · walk_at "go"
    refine ⟨rfl, ?_⟩
    rw [decide_eq_true rfl]
    walk_at "go"
    refine q2 ?_ H5 e45
    cases ws with
    | nil => rfl
    | cons c r =>
      cases hx
      exact pCs_num hk
  walk_at "go"
  refine ⟨rfl, ?_⟩
  rw [decide_eq_false (by simp)]
  walk_at "go"
  obtain ⟨r0, rfl⟩ : ∃ r0, ws = x :: r0 := by
    cases ws with
    | nil =>
      cases hx
      have : num "" = none := num_none (by decide +kernel)
      rw [this] at hk
      cases hk
    | cons c r => cases hx; exact ⟨r, rfl⟩
  rw [pCs_some hk] at q1 q2
  refine XS.x_d (fun c => ?_) (fun c => ?_)
  · walk_at "go"
    exact q2 (if_neg (by omega)) H5 e45
  rw [if_pos (by omega)] at q1 q2
  walk_at "go"
  refine x_from (k := 1) (SqL.of (e45 _ _ hw.l)) fun t6 H6 ht6 e6 k6 => ?_
  walk_at "go"
  refine ⟨XS.sz (by simp), fun l1 hl1 => ?_⟩
  obtain ⟨e7, k7⟩ := XS.newly (o := HO.lst _) hl1
  generalize hGH7 : upd _ l1 _ = H7 at e7 k7 ⊢
  walk_at "go"
  have hwr : ∀ y ∈ r0, y.length ≤ WL := fun y hy => hw.w y (List.mem_cons_of_mem _ hy)
  have hlr : r0.length ≤ 1000000 := by simp at hn; omega
  have k67 : H7 t6 = some (.lst (r0.map V.str)) := e7 _ _ k6
  have sof := SofarP.start (n := n) (c := k.toNat) (r := r0)
  generalize pP (pS n) r0.length k.toNat r0 = got at q1 q2 sof
  refine ⟨fun m σ H' => ∃ (rs : List Str) (t : Addr) (acc : List V) (ps : List Stm) (y5 : Option V), σ = [some (.ref p), some (.int (40 - n)), some (.int k), some (.ref t), some (.ref l1), y5] ∧ Same H5 H' ∧ H' l1 = some (.lst acc) ∧ DpAll K H' acc (ps.map toD) ∧ H' t = some (.lst (rs.map V.str)) ∧ H t = none ∧ SufE rs r0 ∧ SofarP n got (k.toNat - ps.length) ps rs ∧ ps.length ≤ k.toNat ∧ ps.length + rs.length ≤ r0.length ∧ m = rs.length,
    ⟨_, r0, t6, [], [], none, rfl, e6.trans e7, k7, .nil, k67, none_back e45 ht6, .inl rfl, sof, by simp, by simp, rfl⟩, ?_⟩
  rintro m σ H2 ⟨rs, t, acc, ps, y5, rfl, e2, k2, d2, kt, tn, suf, sof, hpk, hps, rfl⟩
  have acl : acc.length = ps.length := by
    have := d2.len
    rw [List.length_map] at this
    exact this
  walk_at "go"
  refine XS.x_lenL (SqL.of k2) ?_
  rw [acl]
  walk_at "go"
  refine XS.x_d (fun c => ?_) (fun c => ?_)
  · obtain ⟨c', hc'⟩ : ∃ c', k.toNat - ps.length = c' + 1 := ⟨k.toNat - ps.length - 1, by omega⟩
    rw [hc'] at sof
    refine ⟨fun σ' H' => ∃ (rs2 : List Str) (t : Addr) (acc2 : List V) (ps2 : List Stm) (y5 : Option V), σ' = [some (.ref p), some (.int (40 - n)), some (.int k), some (.ref t), some (.ref l1), y5] ∧ Same H5 H' ∧ H' l1 = some (.lst acc2) ∧ DpAll K H' acc2 (ps2.map toD) ∧ H' t = some (.lst (rs2.map V.str)) ∧ H t = none ∧ SufE rs2 r0 ∧ SofarP n got (k.toNat - ps2.length) ps2 rs2 ∧ ps2.length ≤ k.toNat ∧ ps2.length + rs2.length ≤ r0.length ∧ rs2.length < rs.length,
      fun σ' H' ⟨rs2, t, acc2, ps2, y5, e, a1, a2, a3, a4, b4, a5, a6, a7, a8, a9⟩ => ⟨rs2.length, a9, rs2, t, acc2, ps2, y5, e, a1, a2, a3, a4, b4, a5, a6, a7, a8, rfl⟩, ?_⟩
    walk_at "go"
    refine ⟨t, rs, rfl, wt_suf kt suf hlr hwr, hn40, fun a r hgot tt u p2 H3 e3 p2n ht hu2 hp2 => ?_, fun hgot H3 e3 => ?_⟩
    · have hs := (pS_suf n _ _ _ hgot)
      have hsl := hs.len
      have k23 := e3 _ _ k2
      walk_at "go"
      refine ⟨rfl, ?_⟩
      rw [decide_eq_false (by simp)]
      walk_at "go"
      refine XS.x_tyL' (XS.x_tyL k23) ?_
      walk_at "go"
      refine XS.x_ixT hu2 (XS.atI_get (i := 0) rfl) ?_
      walk_at "go"
      have kk := keeps_lst (ys := acc ++ [.ref tt]) k23
      refine XS.x_app k23 (Nat.lt_of_le_of_lt (by omega : acc.length ≤ 1000000) (by decide)) ?_
      have e4' : Same H5 (upd H3 l1 (HO.lst (acc ++ [V.ref tt]))) := XS.same_mut (e2.trans e3) (by
        cases hq : H5 l1 with
        | none => rfl
        | some o => rw [(e6 _ _ hq)] at hl1; cases hl1)
      have nel : p2 ≠ l1 := fun z => by
        subst z
        rw [k2] at p2n
        cases p2n
      walk_at "go"
      refine XS.x_ixT (kk.seqT hu2) (XS.atI_get (i := 1) rfl) ?_
      walk_at "go"
      refine ⟨r, p2, acc ++ [.ref tt], ps ++ [a], _, rfl, e4', upd_same, ?_, by rw [upd_ne nel]; exact hp2, none_back (e45.trans e2) p2n, ?_, ?_, by simp; omega, by simp; omega, hsl⟩
      · rw [List.map_append]
        refine (DpAll.keeps kk _ _ (fun d hd => ?_) (DpAll.same e3 _ _ d2)).app (.one (Dp.keeps kk _ _ (im_stm a) ht))
        obtain ⟨z, _, rfl⟩ := List.mem_map.mp hd
        exact im_stm z
      · rcases suf with h | h
        · rw [h] at hs; exact .inr hs
        · exact .inr (hs.trans h)
      · rw [show k.toNat - (ps ++ [a]).length = c' by simp; omega]
        exact sof.more hgot
    · walk_at "go"
      refine ⟨rfl, ?_⟩
      rw [decide_eq_true rfl]
      walk_at "go"
      exact q2 (sof.none hgot) H3 (e45.trans (e2.trans e3))
  · rw [show k.toNat - ps.length = 0 by omega] at sof
    walk_at "go"
    refine XS.x_tupL (SqL.of k2) fun t8 H8 ht8 e8 k8 => ?_
    walk_at "go"
    refine ⟨XS.sz (by simp), fun t9 ht9 => ?_⟩
    obtain ⟨e9, k9⟩ := XS.newly (o := HO.tup _) ht9
    refine q1 ps rs sof.end t8 t9 t _ (e45.trans (e2.trans (e8.trans e9))) tn ?_ (SqT.of k9) ((e8.trans e9) _ _ kt)
    exact .tup (e9.seqT (SqT.of k8)) (DpAll.same (e8.trans e9) _ _ d2)

abbrev s__law_along : Stmt := topS 44
abbrev N__law_along : List Str := ["_law_words_here", "_law_within_here", "_law_kind", "_law_head", "_law_got"]
abbrev P__law_along : List Str := ["_law_words_here", "_law_within_here"]
theorem sc__law_along : FnScope N__law_along P__law_along (defScope s__law_along) := ⟨rfl, rfl, rfl, by decide +kernel, rfl, by decide +kernel, by decide +kernel⟩
theorem lal_step {n : Nat} (F : FunAt K mg "_law_along" s__law_along P__law_along) (Z : Bl mg) (D__law_number : DefAt P w K mg base CX0 1 "_law_number" P__law_number sp_lnumber) (D__law_is_name : DefAt P w K mg base CX0 1 "_law_is_name" P__law_is_name sp_lname)
    (D__law_sum_along : DefAt P w K mg base CX0 2 "_law_sum_along" P__law_sum_along (sp_lsum_along K)) (D__law_along : DefAt P w K mg base CX0 (2 * n + 2) "_law_along" P__law_along (fun vs H Q E => ∃ m, n = m + 1 ∧ sp_lalong m K vs H Q E))
    (D__law_parts_along : DefAt P w K mg base CX0 (2 * n + 2) "_law_parts_along" P__law_parts_along (fun vs H Q E => ∃ m, n = m + 1 ∧ sp_lparts m K vs H Q E)) : DefAt P w K mg base CX0 (2 * n + 3) "_law_along" P__law_along (sp_lalong n K) := by
  refine F.ok sc__law_along (fun vs H Q E h => ?_) (fun f cdv A outer s H vs Q E hr h => ?_)
  · obtain ⟨_, _, rfl, _⟩ := h
    rfl
  obtain ⟨p, ws, rfl, hw, hn40, q1, q2⟩ := h
  have hn := hw.n
  refine ⟨_, (pss_cons (ps_if (PW.pt (pw_or (pt_cmpR (op_eqM K hr.units) (pv 0) (pe_lst pa_nil) (nomark _)) (pw_or1 (pt_cmpR op_eq (pv 1) pe_int (nomark _)))))
          (pss_one (ps_ret pe_non)) pss_nil)
        (pss_cons (ps_set (i := 2) sc__law_along.nd rfl (Or.inl rfl) (pe_ix (ix_listK K) (pv 0) pe_int (fun _ _ => rfl)))
        (pss_cons (ps_set (i := 3) sc__law_along.nd rfl (Or.inl rfl) (pe_tup (pa_cons (pv 2) pa_nil)))
        (pss_cons (ps_set (i := 4) sc__law_along.nd rfl (Or.inl rfl) pe_non)
        (pss_cons (ps_if (PW.pt (pw_or (pt_cmpR op_eq (pv 2) pe_str (nomark _)) (pw_or1 (pt_cmpR op_eq (pv 2) pe_str (nomark _)))))
          (pss_one (ps_set (i := 4) sc__law_along.nd rfl (Or.inl rfl) (pe_callD D__law_sum_along (hr.mono (by first | exact Nat.le_refl _ | omega | decide)) rfl pass0 (pa_cons (pe_slice (sl_listK K) (pv 0) (po_some pe_int) po_none) pa_nil)))) pss_nil)
        (pss_cons (ps_if (PW.pt (pw_and (pt_cmpR op_eq (pv 2) pe_str (nomark _)) (pw_and (pt_cmpR op_gt (pe_callB (call_lenK K) (by rfl) Z.len PySem.boot_len (pa_cons (pv 0) pa_nil)) pe_int (nomark _)) (pw_and1 (pt_cmpR op_gt (pe_orTK K (pe_callD D__law_number (hr.mono (by first | exact Nat.le_refl _ | omega | decide)) rfl pass0 (pa_cons (pe_ix (ix_listK K) (pv 0) pe_int (fun _ _ => rfl)) pa_nil)) (pe_one pe_int)) pe_int (nomark _))))))
          (pss_cons (ps_set (i := 3) sc__law_along.nd rfl (Or.inl rfl) (pe_tup (pa_cons (pv 2) (pa_cons (pe_callD D__law_number (hr.mono (by first | exact Nat.le_refl _ | omega | decide)) rfl pass0 (pa_cons (pe_ix (ix_listK K) (pv 0) pe_int (fun _ _ => rfl)) pa_nil)) pa_nil))))
        (pss_one (ps_set (i := 4) sc__law_along.nd rfl (Or.inl rfl) (pe_callD D__law_sum_along (hr.mono (by first | exact Nat.le_refl _ | omega | decide)) rfl pass0 (pa_cons (pe_slice (sl_listK K) (pv 0) (po_some pe_int) po_none) pa_nil))))) pss_nil)
        (pss_cons (ps_if (pt_cmpR op_eq (pv 2) pe_str (nomark _))
          (pss_one (ps_set (i := 4) sc__law_along.nd rfl (Or.inl rfl) (pe_callD D__law_along (hr.mono (by first | exact Nat.le_refl _ | omega | decide)) rfl pass0 (pa_cons (pe_slice (sl_listK K) (pv 0) (po_some pe_int) po_none) (pa_cons (pe_op op_add (pv 1) pe_int) pa_nil))))) pss_nil)
        (pss_cons (ps_if (PW.pt (pw_or (pt_cmpR op_eq (pv 2) pe_str (nomark _)) (pw_or1 (pt_cmpR op_eq (pv 2) pe_str (nomark _)))))
          (pss_one (ps_set (i := 4) sc__law_along.nd rfl (Or.inl rfl) (pe_callD D__law_parts_along (hr.mono (by first | exact Nat.le_refl _ | omega | decide)) rfl pass0 (pa_cons (pe_slice (sl_listK K) (pv 0) (po_some pe_int) po_none) (pa_cons (pe_op op_add (pv 1) pe_int) pa_nil))))) pss_nil)
        (pss_cons (ps_if (PW.pt (pw_and (PW.pt (pw_or (pt_cmpR op_eq (pv 2) pe_str (nomark _)) (pw_or1 (pt_cmpR op_eq (pv 2) pe_str (nomark _))))) (pw_and (pt_cmpR op_gt (pe_callB (call_lenK K) (by rfl) Z.len PySem.boot_len (pa_cons (pv 0) pa_nil)) pe_int (nomark _)) (pw_and1 (pt_val (pe_callD D__law_is_name (hr.mono (by first | exact Nat.le_refl _ | omega | decide)) rfl pass0 (pa_cons (pe_ix (ix_listK K) (pv 0) pe_int (fun _ _ => rfl)) pa_nil)))))))
          (pss_cons (ps_set (i := 3) sc__law_along.nd rfl (Or.inl rfl) (pe_tup (pa_cons (pv 2) (pa_cons (pe_ix (ix_listK K) (pv 0) pe_int (fun _ _ => rfl)) pa_nil))))
        (pss_one (ps_set (i := 4) sc__law_along.nd rfl (Or.inl rfl) (pe_callD D__law_along (hr.mono (by first | exact Nat.le_refl _ | omega | decide)) rfl pass0 (pa_cons (pe_slice (sl_listK K) (pv 0) (po_some pe_int) po_none) (pa_cons (pe_op op_add (pv 1) pe_int) pa_nil)))))) pss_nil)
        (pss_cons (ps_if (pt_cmpR op_isN (pv 4) pe_non (nomark _))
          (pss_one (ps_ret pe_non)) pss_nil)
        (pss_one (ps_ret (pe_tup (pa_cons (pe_op (op_catK K) (pv 3) (pe_tup (pa_cons (pe_ix (ix_tupK K) (pv 4) pe_int (fun _ _ => rfl)) pa_nil))) (pa_cons (pe_ix (ix_tupK K) (pv 4) pe_int (fun _ _ => rfl)) pa_nil))))))))))))))), ?_⟩
  walk_at "go"
  refine ⟨XS.sz (by simp), fun t1 ht1 => ?_⟩
  obtain ⟨e1, k1⟩ := XS.newly (o := HO.lst _) ht1
  generalize hGH1 : upd _ t1 _ = H1 at e1 k1 ⊢
  walk_at "go"
  refine x_eqE (SqL.of (e1 _ _ hw.l)) (SqL.of k1) ?_
  walk_at "go"
  cases n with
  | zero =>
    have stop : pS 0 ws = none := rfl
    cases ws with
    | nil =>
      refine XS.x_yes rfl ?_
      walk_at "go"
      exact q2 rfl H1 e1
    | cons x r =>
      refine XS.x_no rfl ?_
      walk_at "go"
      refine XS.x_yes (decide_eq_true (by simp)) ?_
      walk_at "go"
      exact q2 rfl H1 e1
  | succ n =>
  cases ws with
  | nil =>
    refine XS.x_yes rfl ?_
    walk_at "go"
    exact q2 rfl H1 e1
  | cons x r =>
  have hw1 := hw.same e1
  have xl := hw.w x (List.mem_cons_self ..)
  have hwr : ∀ y ∈ r, y.length ≤ WL := fun y hy => hw.w y (List.mem_cons_of_mem _ hy)
  have hlr : r.length + 1 ≤ 1000000 := by simpa using hn
  refine XS.x_no rfl ?_
  walk_at "go"
  refine XS.x_no (decide_eq_false (by omega)) ?_
  walk_at "go"
  refine XS.x_ixL (SqL.of hw1.l) (XS.atI_get (i := 0) (v := .str x) rfl) ?_
  walk_at "go"
  refine ⟨XS.sz (by simp), fun t2 ht2 => ?_⟩
  obtain ⟨e2, k2⟩ := XS.newly (o := HO.tup _) ht2
  generalize hGH2 : upd _ t2 _ = H2 at e2 k2 ⊢
  walk_at "go"
  have e12 := e1.trans e2
  have hl2 : H2 p = some (.lst ((x :: r).map V.str)) := e12 _ _ hw.l
  cases kind x with
  | above =>
    refine XS.x_yes (by show decide (("above" : Str) = "above") = true; decide +kernel) ?_
    walk_at "go"
    refine x_from (k := 1) (SqL.of (hl2)) fun t4 H4 ht4 e4 k4 => ?_
    walk_at "go"
    have sf : SufE r (("above" : Str) :: r) := .inr Suf.one
    refine ⟨t4, r, rfl, wt_suf k4 sf hn hw.w, fun a rr hgot t u p2 H5 e5 p2n ht hu hp2 => ?_, fun hgot H5 e5 => ?_⟩
    rotate_left
    · walk_at "go"
      refine XS.x_no (by show decide (("above" : Str) = "goes") = false; decide +kernel) ?_
      walk_at "go"
      refine XS.x_no (by show decide (("above" : Str) = "not") = false; decide +kernel) ?_
      walk_at "go"
      refine XS.x_no (by show decide (("above" : Str) = "and") = false; decide +kernel) ?_
      walk_at "go"
      refine XS.x_no (by show decide (("above" : Str) = "or") = false; decide +kernel) ?_
      walk_at "go"
      refine XS.x_no (by show decide (("above" : Str) = "some") = false; decide +kernel) ?_
      walk_at "go"
      refine XS.x_no (by show decide (("above" : Str) = "all") = false; decide +kernel) ?_
      walk_at "go"
      refine ⟨rfl, ?_⟩
      rw [decide_eq_true rfl]
      walk_at "go"
      exact q2 (by rw [pS_above, hgot]; rfl) H5 (e12.trans (e4.trans e5))
    walk_at "go"
    refine XS.x_no (by show decide (("above" : Str) = "goes") = false; decide +kernel) ?_
    walk_at "go"
    refine XS.x_no (by show decide (("above" : Str) = "not") = false; decide +kernel) ?_
    walk_at "go"
    refine XS.x_no (by show decide (("above" : Str) = "and") = false; decide +kernel) ?_
    walk_at "go"
    refine XS.x_no (by show decide (("above" : Str) = "or") = false; decide +kernel) ?_
    walk_at "go"
    refine XS.x_no (by show decide (("above" : Str) = "some") = false; decide +kernel) ?_
    walk_at "go"
    refine XS.x_no (by show decide (("above" : Str) = "all") = false; decide +kernel) ?_
    walk_at "go"
    refine ⟨rfl, ?_⟩
    rw [decide_eq_false (by simp)]
    walk_at "go"
    refine XS.x_ixT hu (XS.atI_get (i := 0) rfl) ?_
    walk_at "go"
    refine ⟨XS.sz (by simp), fun t7 ht7 => ?_⟩
    obtain ⟨e7, k7⟩ := XS.newly (o := HO.tup _) ht7
    generalize hGH7 : upd _ t7 _ = H7 at e7 k7 ⊢
    walk_at "go"
    refine XS.x_catA ((e4.trans (e5.trans e7)).seqT (SqT.of k2)) (SqT.of k7) (List.cons_ne_nil _ _) (List.cons_ne_nil _ _) (by simp) fun t8 H8 e8 k8 => ?_
    walk_at "go"
    refine XS.x_ixT ((e7.trans e8).seqT hu) (XS.atI_get (i := 1) rfl) ?_
    walk_at "go"
    refine ⟨XS.sz (by simp), fun t9 ht9 => ?_⟩
    obtain ⟨e9, k9⟩ := XS.newly (o := HO.tup _) ht9
    exact q1 (.above a) rr (by rw [pS_above, hgot]; rfl) t8 t9 p2 _ (e12.trans (e4.trans (e5.trans (e7.trans (e8.trans e9))))) (none_back (e12.trans e4) p2n) (XS.Dp.mkAbove (e9.seqT (SqT.of k8)) (Dp.same (e7.trans (e8.trans e9)) _ _ ht)) (SqT.of k9) ((e7.trans (e8.trans e9)) _ _ hp2)
  | nought =>
    refine XS.x_no (by show decide (("nought" : Str) = "above") = false; decide +kernel) ?_
    walk_at "go"
    refine XS.x_yes (by show decide (("nought" : Str) = "nought") = true; decide +kernel) ?_
    walk_at "go"
    refine x_from (k := 1) (SqL.of (hl2)) fun t4 H4 ht4 e4 k4 => ?_
    walk_at "go"
    have sf : SufE r (("nought" : Str) :: r) := .inr Suf.one
    refine ⟨t4, r, rfl, wt_suf k4 sf hn hw.w, fun a rr hgot t u p2 H5 e5 p2n ht hu hp2 => ?_, fun hgot H5 e5 => ?_⟩
    rotate_left
    · walk_at "go"
      refine XS.x_no (by show decide (("nought" : Str) = "goes") = false; decide +kernel) ?_
      walk_at "go"
      refine XS.x_no (by show decide (("nought" : Str) = "not") = false; decide +kernel) ?_
      walk_at "go"
      refine XS.x_no (by show decide (("nought" : Str) = "and") = false; decide +kernel) ?_
      walk_at "go"
      refine XS.x_no (by show decide (("nought" : Str) = "or") = false; decide +kernel) ?_
      walk_at "go"
      refine XS.x_no (by show decide (("nought" : Str) = "some") = false; decide +kernel) ?_
      walk_at "go"
      refine XS.x_no (by show decide (("nought" : Str) = "all") = false; decide +kernel) ?_
      walk_at "go"
      refine ⟨rfl, ?_⟩
      rw [decide_eq_true rfl]
      walk_at "go"
      exact q2 (by rw [pS_nought, hgot]; rfl) H5 (e12.trans (e4.trans e5))
    walk_at "go"
    refine XS.x_no (by show decide (("nought" : Str) = "goes") = false; decide +kernel) ?_
    walk_at "go"
    refine XS.x_no (by show decide (("nought" : Str) = "not") = false; decide +kernel) ?_
    walk_at "go"
    refine XS.x_no (by show decide (("nought" : Str) = "and") = false; decide +kernel) ?_
    walk_at "go"
    refine XS.x_no (by show decide (("nought" : Str) = "or") = false; decide +kernel) ?_
    walk_at "go"
    refine XS.x_no (by show decide (("nought" : Str) = "some") = false; decide +kernel) ?_
    walk_at "go"
    refine XS.x_no (by show decide (("nought" : Str) = "all") = false; decide +kernel) ?_
    walk_at "go"
    refine ⟨rfl, ?_⟩
    rw [decide_eq_false (by simp)]
    walk_at "go"
    refine XS.x_ixT hu (XS.atI_get (i := 0) rfl) ?_
    walk_at "go"
    refine ⟨XS.sz (by simp), fun t7 ht7 => ?_⟩
    obtain ⟨e7, k7⟩ := XS.newly (o := HO.tup _) ht7
    generalize hGH7 : upd _ t7 _ = H7 at e7 k7 ⊢
    walk_at "go"
    refine XS.x_catA ((e4.trans (e5.trans e7)).seqT (SqT.of k2)) (SqT.of k7) (List.cons_ne_nil _ _) (List.cons_ne_nil _ _) (by simp) fun t8 H8 e8 k8 => ?_
    walk_at "go"
    refine XS.x_ixT ((e7.trans e8).seqT hu) (XS.atI_get (i := 1) rfl) ?_
    walk_at "go"
    refine ⟨XS.sz (by simp), fun t9 ht9 => ?_⟩
    obtain ⟨e9, k9⟩ := XS.newly (o := HO.tup _) ht9
    exact q1 (.nought a) rr (by rw [pS_nought, hgot]; rfl) t8 t9 p2 _ (e12.trans (e4.trans (e5.trans (e7.trans (e8.trans e9))))) (none_back (e12.trans e4) p2n) (XS.Dp.mkNought (e9.seqT (SqT.of k8)) (Dp.same (e7.trans (e8.trans e9)) _ _ ht)) (SqT.of k9) ((e7.trans (e8.trans e9)) _ _ hp2)
  | goes =>
    refine XS.x_no (by show decide (("goes" : Str) = "above") = false; decide +kernel) ?_
    walk_at "go"
    refine XS.x_no (by show decide (("goes" : Str) = "nought") = false; decide +kernel) ?_
    walk_at "go"
    refine XS.x_yes (by show decide (("goes" : Str) = "goes") = true; decide +kernel) ?_
    walk_at "go"
    refine XS.x_lenL (SqL.of hl2) ?_
    rw [List.length_map]
    walk_at "go"
    rw [pS_goes] at q1 q2
    cases r with
    | nil =>
      refine XS.x_no (by decide) ?_
      walk_at "go"
      refine XS.x_no (by show decide (("goes" : Str) = "not") = false; decide +kernel) ?_
      walk_at "go"
      refine XS.x_no (by show decide (("goes" : Str) = "and") = false; decide +kernel) ?_
      walk_at "go"
      refine XS.x_no (by show decide (("goes" : Str) = "or") = false; decide +kernel) ?_
      walk_at "go"
      refine XS.x_no (by show decide (("goes" : Str) = "some") = false; decide +kernel) ?_
      walk_at "go"
      refine XS.x_no (by show decide (("goes" : Str) = "all") = false; decide +kernel) ?_
      walk_at "go"
      refine ⟨rfl, ?_⟩
      rw [decide_eq_true rfl]
      walk_at "go"
      exact q2 rfl H2 e12
    | cons d r' =>
    refine XS.x_yes (decide_eq_true (by simp only [List.length_cons]; omega)) ?_
    walk_at "go"
    refine XS.x_ixL (SqL.of hl2) (XS.atI_get (i := 1) (v := .str d) rfl) ?_
    walk_at "go"
    have dl := hw.w d (by simp)
    refine ⟨d, rfl, dl, fun m hm => ?_, fun hm => ?_⟩
    rotate_left
    · refine ⟨false, rfl, ?_⟩
      rw [if_neg (by decide)]
      walk_at "go"
      refine XS.x_no (by decide) ?_
      walk_at "go"
      refine XS.x_no (by show decide (("goes" : Str) = "not") = false; decide +kernel) ?_
      walk_at "go"
      refine XS.x_no (by show decide (("goes" : Str) = "and") = false; decide +kernel) ?_
      walk_at "go"
      refine XS.x_no (by show decide (("goes" : Str) = "or") = false; decide +kernel) ?_
      walk_at "go"
      refine XS.x_no (by show decide (("goes" : Str) = "some") = false; decide +kernel) ?_
      walk_at "go"
      refine XS.x_no (by show decide (("goes" : Str) = "all") = false; decide +kernel) ?_
      walk_at "go"
      refine ⟨rfl, ?_⟩
      rw [decide_eq_true rfl]
      walk_at "go"
      exact q2 (pGo_num hm) H2 e12
    refine ⟨m != 0, rfl, ?_⟩
    rw [pGo_some hm] at q1 q2
    by_cases hm1 : 1 ≤ m
    rotate_left
    · by_cases h0 : m = 0
      · rw [if_neg (by simp [h0])]
        walk_at "go"
        refine XS.x_no (decide_eq_false (by omega)) ?_
        walk_at "go"
        refine XS.x_no (by show decide (("goes" : Str) = "not") = false; decide +kernel) ?_
        walk_at "go"
        refine XS.x_no (by show decide (("goes" : Str) = "and") = false; decide +kernel) ?_
        walk_at "go"
        refine XS.x_no (by show decide (("goes" : Str) = "or") = false; decide +kernel) ?_
        walk_at "go"
        refine XS.x_no (by show decide (("goes" : Str) = "some") = false; decide +kernel) ?_
        walk_at "go"
        refine XS.x_no (by show decide (("goes" : Str) = "all") = false; decide +kernel) ?_
        walk_at "go"
        refine ⟨rfl, ?_⟩
        rw [decide_eq_true rfl]
        walk_at "go"
        exact q2 (if_neg hm1) H2 e12
      · rw [if_pos (by simpa using h0)]
        walk_at "go"
        refine XS.x_no (decide_eq_false (by omega)) ?_
        walk_at "go"
        refine XS.x_no (by show decide (("goes" : Str) = "not") = false; decide +kernel) ?_
        walk_at "go"
        refine XS.x_no (by show decide (("goes" : Str) = "and") = false; decide +kernel) ?_
        walk_at "go"
        refine XS.x_no (by show decide (("goes" : Str) = "or") = false; decide +kernel) ?_
        walk_at "go"
        refine XS.x_no (by show decide (("goes" : Str) = "some") = false; decide +kernel) ?_
        walk_at "go"
        refine XS.x_no (by show decide (("goes" : Str) = "all") = false; decide +kernel) ?_
        walk_at "go"
        refine ⟨rfl, ?_⟩
        rw [decide_eq_true rfl]
        walk_at "go"
        exact q2 (if_neg hm1) H2 e12
    rw [if_pos (by simp; omega)]
    rw [if_pos hm1] at q1 q2
    walk_at "go"
    refine XS.x_yes (decide_eq_true (by omega)) ?_
    walk_at "go"
    refine XS.x_ixL (SqL.of hl2) (XS.atI_get (i := 1) (v := .str d) rfl) ?_
    walk_at "go"
    refine ⟨d, rfl, dl, fun m' hm' => ?_, fun hm' => by rw [hm] at hm'; cases hm'⟩
    rw [hm] at hm'
    cases hm'
    walk_at "go"
    refine ⟨XS.sz (by simp), fun t3 ht3 => ?_⟩
    obtain ⟨e3, k3⟩ := XS.newly (o := HO.tup _) ht3
    generalize hGH3 : upd _ t3 _ = H3 at e3 k3 ⊢
    walk_at "go"
    have e13 := e12.trans e3
    refine x_from (k := 2) (SqL.of (e3 _ _ hl2)) fun t4 H4 ht4 e4 k4 => ?_
    walk_at "go"
    have sf : SufE r' (("goes" : Str) :: d :: r') := .inr Suf.one.cons
    refine ⟨t4, r', rfl, wt_suf k4 sf hn hw.w, fun a rr hgot t u p2 H5 e5 p2n ht hu hp2 => ?_, fun hgot H5 e5 => ?_⟩
    rotate_left
    · walk_at "go"
      refine XS.x_no (by show decide (("goes" : Str) = "not") = false; decide +kernel) ?_
      walk_at "go"
      refine XS.x_no (by show decide (("goes" : Str) = "and") = false; decide +kernel) ?_
      walk_at "go"
      refine XS.x_no (by show decide (("goes" : Str) = "or") = false; decide +kernel) ?_
      walk_at "go"
      refine XS.x_no (by show decide (("goes" : Str) = "some") = false; decide +kernel) ?_
      walk_at "go"
      refine XS.x_no (by show decide (("goes" : Str) = "all") = false; decide +kernel) ?_
      walk_at "go"
      refine ⟨rfl, ?_⟩
      rw [decide_eq_true rfl]
      walk_at "go"
      exact q2 (by rw [hgot]; rfl) H5 (e13.trans (e4.trans e5))
    walk_at "go"
    refine XS.x_no (by show decide (("goes" : Str) = "not") = false; decide +kernel) ?_
    walk_at "go"
    refine XS.x_no (by show decide (("goes" : Str) = "and") = false; decide +kernel) ?_
    walk_at "go"
    refine XS.x_no (by show decide (("goes" : Str) = "or") = false; decide +kernel) ?_
    walk_at "go"
    refine XS.x_no (by show decide (("goes" : Str) = "some") = false; decide +kernel) ?_
    walk_at "go"
    refine XS.x_no (by show decide (("goes" : Str) = "all") = false; decide +kernel) ?_
    walk_at "go"
    refine ⟨rfl, ?_⟩
    rw [decide_eq_false (by simp)]
    walk_at "go"
    refine XS.x_ixT hu (XS.atI_get (i := 0) rfl) ?_
    walk_at "go"
    refine ⟨XS.sz (by simp), fun t7 ht7 => ?_⟩
    obtain ⟨e7, k7⟩ := XS.newly (o := HO.tup _) ht7
    generalize hGH7 : upd _ t7 _ = H7 at e7 k7 ⊢
    walk_at "go"
    refine XS.x_catA ((e4.trans (e5.trans e7)).seqT (SqT.of k3)) (SqT.of k7) (List.cons_ne_nil _ _) (List.cons_ne_nil _ _) (by simp) fun t8 H8 e8 k8 => ?_
    walk_at "go"
    refine XS.x_ixT ((e7.trans e8).seqT hu) (XS.atI_get (i := 1) rfl) ?_
    walk_at "go"
    refine ⟨XS.sz (by simp), fun t9 ht9 => ?_⟩
    obtain ⟨e9, k9⟩ := XS.newly (o := HO.tup _) ht9
    exact q1 (.goes m a) rr (by rw [hgot]; rfl) t8 t9 p2 _ (e13.trans (e4.trans (e5.trans (e7.trans (e8.trans e9))))) (none_back (e13.trans e4) p2n) (XS.Dp.mkGoes (e9.seqT (SqT.of k8)) (Dp.same (e7.trans (e8.trans e9)) _ _ ht)) (SqT.of k9) ((e7.trans (e8.trans e9)) _ _ hp2)
  | not =>
    refine XS.x_no (by show decide (("not" : Str) = "above") = false; decide +kernel) ?_
    walk_at "go"
    refine XS.x_no (by show decide (("not" : Str) = "nought") = false; decide +kernel) ?_
    walk_at "go"
    refine XS.x_no (by show decide (("not" : Str) = "goes") = false; decide +kernel) ?_
    walk_at "go"
    refine XS.x_yes (by show decide (("not" : Str) = "not") = true; decide +kernel) ?_
    walk_at "go"
    rw [pS_not] at q1 q2
    refine x_from (k := 1) (SqL.of (hl2)) fun t4 H4 ht4 e4 k4 => ?_
    walk_at "go"
    have sf : SufE r (("not" : Str) :: r) := .inr Suf.one
    refine ⟨n, rfl, t4, r, by rw [show (40 : Int) - ((n + 1 : Nat) : Int) + 1 = 40 - n by omega]; rfl, wt_suf k4 sf hn hw.w, by omega, fun a rr hgot t u p2 H5 e5 p2n ht hu hp2 => ?_, fun hgot H5 e5 => ?_⟩
    rotate_left
    · walk_at "go"
      refine XS.x_no (by show decide (("not" : Str) = "and") = false; decide +kernel) ?_
      walk_at "go"
      refine XS.x_no (by show decide (("not" : Str) = "or") = false; decide +kernel) ?_
      walk_at "go"
      refine XS.x_no (by show decide (("not" : Str) = "some") = false; decide +kernel) ?_
      walk_at "go"
      refine XS.x_no (by show decide (("not" : Str) = "all") = false; decide +kernel) ?_
      walk_at "go"
      refine ⟨rfl, ?_⟩
      rw [decide_eq_true rfl]
      walk_at "go"
      exact q2 (by rw [hgot]; rfl) H5 (e12.trans (e4.trans e5))
    walk_at "go"
    refine XS.x_no (by show decide (("not" : Str) = "and") = false; decide +kernel) ?_
    walk_at "go"
    refine XS.x_no (by show decide (("not" : Str) = "or") = false; decide +kernel) ?_
    walk_at "go"
    refine XS.x_no (by show decide (("not" : Str) = "some") = false; decide +kernel) ?_
    walk_at "go"
    refine XS.x_no (by show decide (("not" : Str) = "all") = false; decide +kernel) ?_
    walk_at "go"
    refine ⟨rfl, ?_⟩
    rw [decide_eq_false (by simp)]
    walk_at "go"
    refine XS.x_ixT hu (XS.atI_get (i := 0) rfl) ?_
    walk_at "go"
    refine ⟨XS.sz (by simp), fun t7 ht7 => ?_⟩
    obtain ⟨e7, k7⟩ := XS.newly (o := HO.tup _) ht7
    generalize hGH7 : upd _ t7 _ = H7 at e7 k7 ⊢
    walk_at "go"
    refine XS.x_catA ((e4.trans (e5.trans e7)).seqT (SqT.of k2)) (SqT.of k7) (List.cons_ne_nil _ _) (List.cons_ne_nil _ _) (by simp) fun t8 H8 e8 k8 => ?_
    walk_at "go"
    refine XS.x_ixT ((e7.trans e8).seqT hu) (XS.atI_get (i := 1) rfl) ?_
    walk_at "go"
    refine ⟨XS.sz (by simp), fun t9 ht9 => ?_⟩
    obtain ⟨e9, k9⟩ := XS.newly (o := HO.tup _) ht9
    exact q1 (.neg a) rr (by rw [hgot]; rfl) t8 t9 p2 _ (e12.trans (e4.trans (e5.trans (e7.trans (e8.trans e9))))) (none_back (e12.trans e4) p2n) (XS.Dp.mkNeg (e9.seqT (SqT.of k8)) (Dp.same (e7.trans (e8.trans e9)) _ _ ht)) (SqT.of k9) ((e7.trans (e8.trans e9)) _ _ hp2)
  | con o =>
    refine XS.x_no (by show decide (conW o = "above") = false; cases o <;> decide +kernel) ?_
    walk_at "go"
    refine XS.x_no (by show decide (conW o = "nought") = false; cases o <;> decide +kernel) ?_
    walk_at "go"
    refine XS.x_no (by show decide (conW o = "goes") = false; cases o <;> decide +kernel) ?_
    walk_at "go"
    refine XS.x_no (by show decide (conW o = "not") = false; cases o <;> decide +kernel) ?_
    walk_at "go"
    refine XS.x_2 (fun eo => ?_) (fun eo => ?_)
    case' refine_2 =>
      walk_at "go"
      refine XS.x_yes (by cases o with | true => exact absurd eo (by show ¬ (decide (conW true = "and") = false); decide +kernel) | false => (show decide (conW false = "or") = true; decide +kernel)) ?_
    all_goals
      rw [pS_con, pCon_cs] at q1 q2
      walk_at "go"
      refine x_from (k := 1) (SqL.of (hl2)) fun t4 H4 ht4 e4 k4 => ?_
      walk_at "go"
      have sf : SufE r (conW o :: r) := .inr Suf.one
      refine ⟨n, rfl, t4, r, by rw [show (40 : Int) - ((n + 1 : Nat) : Int) + 1 = 40 - n by omega]; rfl, wt_suf k4 sf hn hw.w, by omega, fun a rr hgot t u p2 H5 e5 p2n ht hu hp2 => ?_, fun hgot H5 e5 => ?_⟩
      rotate_left
      · walk_at "go"
        refine XS.x_no (by show decide (conW o = "some") = false; cases o <;> decide +kernel) ?_
        walk_at "go"
        refine XS.x_no (by show decide (conW o = "all") = false; cases o <;> decide +kernel) ?_
        walk_at "go"
        refine ⟨rfl, ?_⟩
        rw [decide_eq_true rfl]
        walk_at "go"
        exact q2 (by rw [hgot]; rfl) H5 (e12.trans (e4.trans e5))
      walk_at "go"
      refine XS.x_no (by show decide (conW o = "some") = false; cases o <;> decide +kernel) ?_
      walk_at "go"
      refine XS.x_no (by show decide (conW o = "all") = false; cases o <;> decide +kernel) ?_
      walk_at "go"
      refine ⟨rfl, ?_⟩
      rw [decide_eq_false (by simp)]
      walk_at "go"
      refine XS.x_ixT hu (XS.atI_get (i := 0) rfl) ?_
      walk_at "go"
      refine ⟨XS.sz (by simp), fun t7 ht7 => ?_⟩
      obtain ⟨e7, k7⟩ := XS.newly (o := HO.tup _) ht7
      generalize hGH7 : upd _ t7 _ = H7 at e7 k7 ⊢
      walk_at "go"
      refine XS.x_catA ((e4.trans (e5.trans e7)).seqT (SqT.of k2)) (SqT.of k7) (List.cons_ne_nil _ _) (List.cons_ne_nil _ _) (by simp) fun t8 H8 e8 k8 => ?_
      walk_at "go"
      refine XS.x_ixT ((e7.trans e8).seqT hu) (XS.atI_get (i := 1) rfl) ?_
      walk_at "go"
      refine ⟨XS.sz (by simp), fun t9 ht9 => ?_⟩
      obtain ⟨e9, k9⟩ := XS.newly (o := HO.tup _) ht9
      exact q1 (.con o a) rr (by rw [hgot]; rfl) t8 t9 p2 _ (e12.trans (e4.trans (e5.trans (e7.trans (e8.trans e9))))) (none_back (e12.trans e4) p2n) (mkConD (e9.seqT (SqT.of k8)) (Dp.same (e7.trans (e8.trans e9)) _ _ ht)) (SqT.of k9) ((e7.trans (e8.trans e9)) _ _ hp2)
  | bnd o =>
    refine XS.x_no (by show decide (bndW o = "above") = false; cases o <;> decide +kernel) ?_
    walk_at "go"
    refine XS.x_no (by show decide (bndW o = "nought") = false; cases o <;> decide +kernel) ?_
    walk_at "go"
    refine XS.x_no (by show decide (bndW o = "goes") = false; cases o <;> decide +kernel) ?_
    walk_at "go"
    refine XS.x_no (by show decide (bndW o = "not") = false; cases o <;> decide +kernel) ?_
    walk_at "go"
    refine XS.x_no (by show decide (bndW o = "and") = false; cases o <;> decide +kernel) ?_
    walk_at "go"
    refine XS.x_no (by show decide (bndW o = "or") = false; cases o <;> decide +kernel) ?_
    walk_at "go"
    rw [pS_bnd] at q1 q2
    refine XS.x_2 (fun eo => ?_) (fun eo => ?_)
    case' refine_2 =>
      walk_at "go"
      refine XS.x_yes (by cases o with | false => exact absurd eo (by show ¬ (decide (bndW false = "some") = false); decide +kernel) | true => (show decide (bndW true = "all") = true; decide +kernel)) ?_
    all_goals
      walk_at "go"
      refine XS.x_lenL (SqL.of hl2) ?_
      rw [List.length_map]
      walk_at "go"
      cases r with
      | nil =>
        refine XS.x_no (decide_eq_false (by simp)) ?_
        walk_at "go"
        refine ⟨rfl, ?_⟩
        rw [decide_eq_true rfl]
        walk_at "go"
        exact q2 rfl H2 e12
      | cons d r' =>
      refine XS.x_yes (decide_eq_true (by simp only [List.length_cons]; omega)) ?_
      walk_at "go"
      refine XS.x_ixL (SqL.of hl2) (XS.atI_get (i := 1) (v := .str d) rfl) ?_
      walk_at "go"
      have dl := hw.w d (by simp)
      refine ⟨d, rfl, dl, ?_⟩
      cases hm : nameOk (cs d) with
      | false =>
        walk_at "go"
        refine ⟨rfl, ?_⟩
        rw [decide_eq_true rfl]
        walk_at "go"
        exact q2 (pBd_no hm) H2 e12
      | true =>
      rw [pBd_yes hm] at q1 q2
      walk_at "go"
      refine XS.x_ixL (SqL.of hl2) (XS.atI_get (i := 1) (v := .str d) rfl) ?_
      walk_at "go"
      refine ⟨XS.sz (by simp), fun t3 ht3 => ?_⟩
      obtain ⟨e3, k3⟩ := XS.newly (o := HO.tup _) ht3
      generalize hGH3 : upd _ t3 _ = H3 at e3 k3 ⊢
      walk_at "go"
      have e13 := e12.trans e3
      refine x_from (k := 2) (SqL.of (e3 _ _ hl2)) fun t4 H4 ht4 e4 k4 => ?_
      walk_at "go"
      have sf : SufE r' (bndW o :: d :: r') := .inr Suf.one.cons
      refine ⟨n, rfl, t4, r', by rw [show (40 : Int) - ((n + 1 : Nat) : Int) + 1 = 40 - n by omega]; rfl, wt_suf k4 sf hn hw.w, by omega, fun a rr hgot t u p2 H5 e5 p2n ht hu hp2 => ?_, fun hgot H5 e5 => ?_⟩
      rotate_left
      · walk_at "go"
        refine ⟨rfl, ?_⟩
        rw [decide_eq_true rfl]
        walk_at "go"
        exact q2 (by rw [hgot]; rfl) H5 (e13.trans (e4.trans e5))
      walk_at "go"
      refine ⟨rfl, ?_⟩
      rw [decide_eq_false (by simp)]
      walk_at "go"
      refine XS.x_ixT hu (XS.atI_get (i := 0) rfl) ?_
      walk_at "go"
      refine ⟨XS.sz (by simp), fun t7 ht7 => ?_⟩
      obtain ⟨e7, k7⟩ := XS.newly (o := HO.tup _) ht7
      generalize hGH7 : upd _ t7 _ = H7 at e7 k7 ⊢
      walk_at "go"
      refine XS.x_catA ((e4.trans (e5.trans e7)).seqT (SqT.of k3)) (SqT.of k7) (List.cons_ne_nil _ _) (List.cons_ne_nil _ _) (by simp) fun t8 H8 e8 k8 => ?_
      walk_at "go"
      refine XS.x_ixT ((e7.trans e8).seqT hu) (XS.atI_get (i := 1) rfl) ?_
      walk_at "go"
      refine ⟨XS.sz (by simp), fun t9 ht9 => ?_⟩
      obtain ⟨e9, k9⟩ := XS.newly (o := HO.tup _) ht9
      exact q1 (.bnd o d a) rr (by rw [hgot]; rfl) t8 t9 p2 _ (e13.trans (e4.trans (e5.trans (e7.trans (e8.trans e9))))) (none_back (e13.trans e4) p2n) (XS.Dp.mkBnd (e9.seqT (SqT.of k8)) rfl (Dp.same (e7.trans (e8.trans e9)) _ _ ht)) (SqT.of k9) ((e7.trans (e8.trans e9)) _ _ hp2)
  | «else» h1 h2 h3 h4 h5 h6 h7 h8 =>
    refine XS.x_no (decide_eq_false h1) ?_
    walk_at "go"
    refine XS.x_no (decide_eq_false h2) ?_
    walk_at "go"
    refine XS.x_no (decide_eq_false h3) ?_
    walk_at "go"
    refine XS.x_no (decide_eq_false h4) ?_
    walk_at "go"
    refine XS.x_no (decide_eq_false h7) ?_
    walk_at "go"
    refine XS.x_no (decide_eq_false h8) ?_
    walk_at "go"
    refine XS.x_no (decide_eq_false h5) ?_
    walk_at "go"
    refine XS.x_no (decide_eq_false h6) ?_
    walk_at "go"
    refine ⟨rfl, ?_⟩
    rw [decide_eq_true rfl]
    walk_at "go"
    exact q2 (pS_else _ h1 h2 h3 h4 h5 h6 h7 h8) H2 e12
theorem lal_all (F : FunAt K mg "_law_along" s__law_along P__law_along) (Fp : FunAt K mg "_law_parts_along" s__law_parts_along P__law_parts_along) (Z : Bl mg) (Dn : DefAt P w K mg base CX0 1 "_law_number" P__law_number sp_lnumber) (Dx : DefAt P w K mg base CX0 1 "_law_is_name" P__law_is_name sp_lname)
    (Ds : DefAt P w K mg base CX0 2 "_law_sum_along" P__law_sum_along (sp_lsum_along K)) : ∀ n, DefAt P w K mg base CX0 (2 * n + 3) "_law_along" P__law_along (sp_lalong n K)
  | 0 => lal_step F Z Dn Dx Ds (F.never fun vs H Q E ⟨m, e, _⟩ => by omega) (Fp.never fun vs H Q E ⟨m, e, _⟩ => by omega)
  | n + 1 => by
    have ih := lal_all F Fp Z Dn Dx Ds n
    refine lal_step F Z Dn Dx Ds ((ih.mono (by omega)).imp fun vs H Q E ⟨m, e, h⟩ => ?_) ((d__law_parts_along Fp Z Dn ih).imp fun vs H Q E ⟨m, e, h⟩ => ?_)
    · obtain rfl : n = m := by omega
      exact h
    · obtain rfl : n = m := by omega
      exact h

abbrev s__law_alike : Stmt := topS 35
abbrev N__law_alike : List Str := ["_law_got", "_law_due", "_law_k"]
abbrev P__law_alike : List Str := ["_law_got", "_law_due"]
theorem sc__law_alike : FnScope N__law_alike P__law_alike (defScope s__law_alike) := ⟨rfl, rfl, rfl, by decide +kernel, rfl, by decide +kernel, by decide +kernel⟩
theorem alike_step {n : Nat} (F : FunAt K mg "_law_alike" s__law_alike P__law_alike) (Z : Bl mg) (D__law_whole : DefAt P w K mg base CX0 1 "_law_whole" P__law_whole sp_whole)
    (D__law_alike : DefAt P w K mg base CX0 (n + 1) "_law_alike" P__law_alike (sp_alikeB n K)) : DefAt P w K mg base CX0 (n + 2) "_law_alike" P__law_alike (sp_alikeB (n + 1) K) := by
  refine F.ok sc__law_alike (fun vs H Q E h => ?_) (fun f cdv A outer s H vs Q E hr h => ?_)
  · obtain ⟨_, _, _, _, rfl, _⟩ := h
    rfl
  obtain ⟨g, e, d, k, rfl, hk, hg, he, al, q⟩ := h
  obtain rfl : k = n := by omega
  refine ⟨_, (pss_cons (ps_if (pt_cmpR op_isN (pv 1) pe_non (nomark _))
          (pss_one (ps_ret (pe_cmpR op_isN (pv 0) pe_non (nomark _)))) pss_nil)
        (pss_cons (ps_if (pt_cmpR op_isC (pv 1) pe_bl (nomark _))
          (pss_one (ps_ret (pe_cmpR op_isC (pv 0) pe_bl (nomark _)))) pss_nil)
        (pss_cons (ps_if (pt_val (pe_callB (call_isiK K) (by rfl) Z.isinstance (by decide +kernel) (pa_cons (pv 1) (pa_cons (pe_bltn (v := .ty "str") rfl Z.str (by decide +kernel) rfl) pa_nil))))
          (pss_one (ps_ret (pe_and (pe_callB (call_isiK K) (by rfl) Z.isinstance (by decide +kernel) (pa_cons (pv 0) (pa_cons (pe_bltn (v := .ty "str") rfl Z.str (by decide +kernel) rfl) pa_nil))) (pe_one (pe_cmpR op_eq (pv 0) (pv 1) (nomark _)))))) pss_nil)
        (pss_cons (ps_if (pt_val (pe_callB (call_isiK K) (by rfl) Z.isinstance (by decide +kernel) (pa_cons (pv 1) (pa_cons (pe_bltn (v := .ty "int") rfl Z.int (by decide +kernel) rfl) pa_nil))))
          (pss_one (ps_ret (pe_and (pe_callD D__law_whole (hr.mono (by first | exact Nat.le_refl _ | omega | decide)) rfl pass0 (pa_cons (pv 0) pa_nil)) (pe_one (pe_cmpR op_eq (pv 0) (pv 1) (nomark _)))))) pss_nil)
        (pss_cons (ps_if (PW.pt (pw_and (pt_val (pe_callB (call_isiK K) (by rfl) Z.isinstance (by decide +kernel) (pa_cons (pv 1) (pa_cons (pe_bltn (v := .ty "tuple") rfl Z.tuple (by decide +kernel) rfl) pa_nil)))) (pw_and1 (pt_not (pt_val (pe_callB (call_isiK K) (by rfl) Z.isinstance (by decide +kernel) (pa_cons (pv 0) (pa_cons (pe_bltn (v := .ty "tuple") rfl Z.tuple (by decide +kernel) rfl) pa_nil))))))))
          (pss_one (ps_ret pe_bl)) pss_nil)
        (pss_cons (ps_if (PW.pt (pw_and (pt_val (pe_callB (call_isiK K) (by rfl) Z.isinstance (by decide +kernel) (pa_cons (pv 1) (pa_cons (pe_bltn (v := .ty "list") rfl Z.list (by decide +kernel) rfl) pa_nil)))) (pw_and1 (pt_not (pt_val (pe_callB (call_isiK K) (by rfl) Z.isinstance (by decide +kernel) (pa_cons (pv 0) (pa_cons (pe_bltn (v := .ty "list") rfl Z.list (by decide +kernel) rfl) pa_nil))))))))
          (pss_one (ps_ret pe_bl)) pss_nil)
        (pss_cons (ps_if (pt_cmpR op_ne (pe_callB (call_lenK K) (by rfl) Z.len PySem.boot_len (pa_cons (pv 0) pa_nil)) (pe_callB (call_lenK K) (by rfl) Z.len PySem.boot_len (pa_cons (pv 1) pa_nil)) (nomark _))
          (pss_one (ps_ret pe_bl)) pss_nil)
        (pss_cons (ps_for PassesOwn.never rfl (pi_range1 rfl Z.range (pa_cons (pe_callB (call_lenK K) (by rfl) Z.len PySem.boot_len (pa_cons (pv 1) pa_nil)) pa_nil)) (pg_name (i := 2) sc__law_alike.nd rfl (Or.inl rfl))
          (pss_one (ps_if (pt_not (pt_val (pe_callD D__law_alike (hr.mono (by first | exact Nat.le_refl _ | omega | decide)) rfl pass0 (pa_cons (pe_ix (ix_seqK K) (pv 0) (pv 2) (fun _ _ => rfl)) (pa_cons (pe_ix (ix_seqK K) (pv 1) (pv 2) (fun _ _ => rfl)) pa_nil)))))
          (pss_one (ps_ret pe_bl)) pss_nil)))
        (pss_one (ps_ret pe_bl)))))))))), ?_⟩
  walk_at "go"
  refine ⟨rfl, ?_⟩
  walk_at "go"
  cases al with
  | non =>
    cases hg
    cases he
    refine XS.x_yes rfl ?_
    walk_at "go"
    exact ⟨rfl, q⟩
  | tru =>
    cases hg
    cases he
    refine XS.x_no rfl ?_
    walk_at "go"
    refine XS.x_is_yes ?_
    walk_at "go"
    exact XS.x_is_yes q
  | str x =>
    cases hg
    cases he
    refine XS.x_no rfl ?_
    walk_at "go"
    refine XS.x_is_no (by simp) ?_
    walk_at "go"
    refine XS.x_isi (.base (.str x)) XS.k_str_str ?_
    walk_at "go"
    refine XS.x_isi (.base (.str x)) XS.k_str_str ?_
    walk_at "go"
    rw [decide_eq_true rfl]
    exact q
  | int i =>
    cases hg
    cases he
    refine XS.x_no rfl ?_
    walk_at "go"
    refine XS.x_is_no (by simp) ?_
    walk_at "go"
    refine XS.x_isi (.base (.int i)) XS.k_int_str ?_
    walk_at "go"
    refine XS.x_isi (.base (.int i)) XS.k_int_int ?_
    walk_at "go"
    refine ⟨i, rfl, ?_⟩
    walk_at "go"
    rw [decide_eq_true rfl]
    exact q
  | tup hd hl =>
    cases hg with
    | tup hs ha =>
    cases he with
    | tup hs' ha' =>
    rename_i ds pg gs pe es
    have l1 := ha.len
    have l2 := ha'.len
    refine XS.x_no rfl ?_
    walk_at "go"
    refine XS.x_is_no (by simp) ?_
    walk_at "go"
    refine XS.x_isi (XS.tyx_T hs') XS.k_tup_str ?_
    walk_at "go"
    refine XS.x_isi (XS.tyx_T hs') XS.k_tup_int ?_
    walk_at "go"
    refine XS.x_isi (XS.tyx_T hs') XS.k_tup_tup ?_
    walk_at "go"
    refine XS.x_isi (XS.tyx_T hs) XS.k_tup_tup ?_
    walk_at "go"
    refine XS.x_isi (XS.tyx_T hs') XS.k_tup_lst ?_
    walk_at "go"
    refine XS.x_lenT hs ?_
    walk_at "go"
    refine XS.x_lenT hs' ?_
    walk_at "go"
    rw [show (gs.length : Int) = es.length by omega]
    refine XS.x_no (by simp) ?_
    walk_at "go"
    refine XS.x_lenT hs' ?_
    walk_at "go"
    refine XS.x_forR1 (by have hWL : WL = 2000000 := rfl; omega) (fun i σ H' => ∃ y : Option V, σ = [some (.ref pg), some (.ref pe), y] ∧ H' = H) ⟨none, rfl, rfl⟩ ?_ ?_
    · rintro i σ H' hi ⟨y, rfl, rfl⟩
      have hi' : i < ds.length := by omega
      obtain ⟨d, hdi⟩ : ∃ d, ds[i]? = some d := ⟨ds[i], List.getElem?_eq_getElem hi'⟩
      obtain ⟨u, hu1, hu2⟩ := ha.get hdi
      obtain ⟨u', hu1', hu2'⟩ := ha'.get hdi
      walk_at "go"
      refine .inr (.inl (XS.x_ixT hs (XS.atI_get hu1) ?_))
      walk_at "go"
      refine .inr (.inl (XS.x_ixT hs' (XS.atI_get hu1') ?_))
      walk_at "go"
      refine ⟨u, u', d, _, rfl, rfl, hu2, hu2', hd d (List.mem_of_getElem? hdi), ?_⟩
      walk_at "go"
      exact ⟨_, rfl, rfl⟩
    · rintro σ H' ⟨y, rfl, rfl⟩
      walk_at "go"
      exact q
  | lst hd hl =>
    cases hg with
    | lst hs ha =>
    cases he with
    | lst hs' ha' =>
    rename_i ds pg gs pe es
    have l1 := ha.len
    have l2 := ha'.len
    refine XS.x_no rfl ?_
    walk_at "go"
    refine XS.x_is_no (by simp) ?_
    walk_at "go"
    refine XS.x_isi (XS.tyx_L hs') XS.k_lst_str ?_
    walk_at "go"
    refine XS.x_isi (XS.tyx_L hs') XS.k_lst_int ?_
    walk_at "go"
    refine XS.x_isi (XS.tyx_L hs') XS.k_lst_tup ?_
    walk_at "go"
    refine XS.x_isi (XS.tyx_L hs') XS.k_lst_lst ?_
    walk_at "go"
    refine XS.x_isi (XS.tyx_L hs) XS.k_lst_lst ?_
    walk_at "go"
    refine XS.x_lenL hs ?_
    walk_at "go"
    refine XS.x_lenL hs' ?_
    walk_at "go"
    rw [show (gs.length : Int) = es.length by omega]
    refine XS.x_no (by simp) ?_
    walk_at "go"
    refine XS.x_lenL hs' ?_
    walk_at "go"
    refine XS.x_forR1 (by have hWL : WL = 2000000 := rfl; omega) (fun i σ H' => ∃ y : Option V, σ = [some (.ref pg), some (.ref pe), y] ∧ H' = H) ⟨none, rfl, rfl⟩ ?_ ?_
    · rintro i σ H' hi ⟨y, rfl, rfl⟩
      have hi' : i < ds.length := by omega
      obtain ⟨d, hdi⟩ : ∃ d, ds[i]? = some d := ⟨ds[i], List.getElem?_eq_getElem hi'⟩
      obtain ⟨u, hu1, hu2⟩ := ha.get hdi
      obtain ⟨u', hu1', hu2'⟩ := ha'.get hdi
      walk_at "go"
      refine .inl (XS.x_ixL hs (XS.atI_get hu1) ?_)
      walk_at "go"
      refine .inl (XS.x_ixL hs' (XS.atI_get hu1') ?_)
      walk_at "go"
      refine ⟨u, u', d, _, rfl, rfl, hu2, hu2', hd d (List.mem_of_getElem? hdi), ?_⟩
      walk_at "go"
      exact ⟨_, rfl, rfl⟩
    · rintro σ H' ⟨y, rfl, rfl⟩
      walk_at "go"
      exact q
theorem alike_all (F : FunAt K mg "_law_alike" s__law_alike P__law_alike) (Z : Bl mg) (D : DefAt P w K mg base CX0 1 "_law_whole" P__law_whole sp_whole) : ∀ n, DefAt P w K mg base CX0 (n + 1) "_law_alike" P__law_alike (sp_alikeB n K)
  | 0 => F.never fun vs H Q E h => by
    obtain ⟨_, _, _, k, _, hk, _⟩ := h
    omega
  | n + 1 => alike_step F Z D (alike_all F Z D n)

abbrev s__law_read : Stmt := topS 46
abbrev N__law_read : List Str := ["_law_text", "_law_e"]
abbrev P__law_read : List Str := ["_law_text"]
theorem sc__law_read : FnScope N__law_read P__law_read (defScope s__law_read) := ⟨rfl, rfl, rfl, by decide +kernel, rfl, by decide +kernel, by decide +kernel⟩
theorem d__law_read {eS eV eP eN : Addr} (Y : Er K mg eS eV eP eN) (F : FunAt K mg "_law_read" s__law_read P__law_read) (Z : Bl mg) (D_read : DefAt P w K mg base (L2.CX P w) 84 "read" P_read (sp_read K eN))
    (D__law_word_of : DefP P w K mg base 1 "_law_word_of" P__law_word_of (sp_word_of eV eP eN)) : DefAt P w K mg base CX0 85 "_law_read" P__law_read (sp_lread K) := by
  refine F.ok sc__law_read (fun vs H Q E h => ?_) (fun f cdv A outer s H vs Q E hr h => ?_)
  · obtain ⟨_, rfl, _⟩ := h
    rfl
  obtain ⟨x, rfl, hx, q1, q2⟩ := h
  refine ⟨_, (pss_one (ps_try_as (i := 1) rfl rfl sc__law_read.nd rfl rfl ⟨rfl, by decide, .inl Y.g_SomeError⟩ takes0 (fun W pn xe tk _ => (pss_one (ps_ret (pe_tup (pa_cons pe_str (pa_cons (pe_callX D_read (hr.mono (by first | exact Nat.le_refl _ | omega | decide)) rfl (fun σ => passAt tk σ) (pa_cons (pv 0) pa_nil)) pa_nil))))))
          (fun a oe cls d pn hz hf => (pss_one (ps_ret (pe_tup (pa_cons (pe_callP D__law_word_of List.mem_cons_self hz hf (roomH_mark hr (by first | exact Nat.le_refl _ | omega | decide)) rfl (pa_cons (pv 1) pa_nil)) (pa_cons pe_bl pa_nil)))))))), ?_⟩
  walk_at "go"
  refine ⟨x, rfl, hx, fun a hgot t H1 e1 d1 => ?_, fun hno H1 e1 => ?_⟩
  · walk_at "go"
    refine ⟨XS.sz (by simp), fun u hu => ?_⟩
    obtain ⟨e2, k2⟩ := XS.newly (o := HO.tup _) hu
    exact q1 a hgot t u _ (e1.trans e2) (Dp.same e2 _ _ d1) (SqT.of k2)
  · refine ⟨true, Y.m_N, fun _ b hb => ?_, fun q => nomatch q⟩
    refine XS.x_ret ?_
    walk_at "go"
    refine ⟨rfl, .note, rfl, fun H2 e2 => ?_⟩
    walk_at "go"
    refine ⟨XS.sz (by simp), fun u hu => ?_⟩
    obtain ⟨e3, k3⟩ := XS.newly (o := HO.tup _) hu
    exact q2 hno u _ (e1.trans (e2.trans e3)) (SqT.of k3)
abbrev s__law_is_due : Stmt := topS 47
abbrev N__law_is_due : List Str := ["_law_text", "_law_got"]
abbrev P__law_is_due : List Str := ["_law_text"]
theorem sc__law_is_due : FnScope N__law_is_due P__law_is_due (defScope s__law_is_due) := ⟨rfl, rfl, rfl, by decide +kernel, rfl, by decide +kernel, by decide +kernel⟩
theorem d__law_is_due (F : FunAt K mg "_law_is_due" s__law_is_due P__law_is_due) (Z : Bl mg) (D__law_along : DefAt P w K mg base CX0 83 "_law_along" P__law_along (sp_lalong 40 K)) (D__law_read : DefAt P w K mg base CX0 85 "_law_read" P__law_read (sp_lread K))
    (D__law_alike : DefAt P w K mg base CX0 121 "_law_alike" P__law_alike (sp_alikeB 120 K)) : DefAt P w K mg base CX0 122 "_law_is_due" P__law_is_due (sp_due K) := by
  refine F.ok sc__law_is_due (fun vs H Q E h => ?_) (fun f cdv A outer s H vs Q E hr h => ?_)
  · obtain ⟨_, rfl, _⟩ := h
    rfl
  obtain ⟨x, rfl, hx, q⟩ := h
  have hx2 : x.length + 2 ≤ WL := Nat.le_trans hx (by decide)
  refine ⟨_, (pss_cons (ps_set (i := 1) sc__law_is_due.nd rfl (Or.inl rfl) (pe_callD D__law_along (hr.mono (by first | exact Nat.le_refl _ | omega | decide)) rfl pass0 (pa_cons (pe_split (pv 0) pe_str) (pa_cons pe_int pa_nil))))
        (pss_cons (ps_if (PW.pt (pw_or (pt_cmpR op_isN (pv 1) pe_non (nomark _)) (pw_or1 (pt_cmpR (op_neM K hr.units) (pe_ix (ix_tupK K) (pv 1) pe_int (fun _ _ => rfl)) (pe_lst pa_nil) (nomark _)))))
          (pss_one (ps_ret (pe_callD D__law_alike (hr.mono (by first | exact Nat.le_refl _ | omega | decide)) rfl pass0 (pa_cons (pe_callD D__law_read (hr.mono (by first | exact Nat.le_refl _ | omega | decide)) rfl pass0 (pa_cons (pv 0) pa_nil)) (pa_cons (pe_tup (pa_cons pe_str (pa_cons pe_bl pa_nil))) pa_nil))))) pss_nil)
        (pss_one (ps_ret (pe_callD D__law_alike (hr.mono (by first | exact Nat.le_refl _ | omega | decide)) rfl pass0 (pa_cons (pe_callD D__law_read (hr.mono (by first | exact Nat.le_refl _ | omega | decide)) rfl pass0 (pa_cons (pv 0) pa_nil)) (pa_cons (pe_tup (pa_cons pe_str (pa_cons (pe_ix (ix_tupK K) (pv 1) pe_int (fun _ _ => rfl)) pa_nil))) pa_nil))))))), ?_⟩
  walk_at "go"
  refine ⟨⟨_, rfl⟩, ?_⟩
  walk_at "go"
  refine ⟨x, " ", rfl, rfl, by decide +kernel, Nat.le_trans hx2 (by decide), fun p hp => ?_⟩
  obtain ⟨e1, k1⟩ := XS.newly (o := HO.lst ((Txt.split x " ").map V.str)) hp
  generalize hG1 : upd _ p _ = H1 at e1 k1 ⊢
  walk_at "go"
  have hw : WsOk K H1 p (wof x) := wof_ok (SqL.of k1) hx2
  have hl : (wof x).length ≤ 1000000 := Nat.le_trans (PyProof.Rows.split_le x " ") hx
  have sd : ∀ {t : V}, Dp K H1 t .none → True := fun _ => trivial
  refine ⟨p, wof x, rfl, ⟨k1, hl, hw.w⟩, by decide, fun a r hgot t u p2 H2 e2 p2n ht hu hp2 => ?_, fun hgot H2 e2 => ?_⟩
  · walk_at "go"
    refine ⟨rfl, ?_⟩
    rw [decide_eq_false (by simp)]
    walk_at "go"
    refine XS.x_ixT hu (XS.atI_get (i := 1) rfl) ?_
    walk_at "go"
    refine ⟨XS.sz (by simp), fun t3 ht3 => ?_⟩
    obtain ⟨e3, k3⟩ := XS.newly (o := HO.lst _) ht3
    generalize hGH3 : upd _ t3 _ = H3 at e3 k3 ⊢
    walk_at "go"
    refine x_neE (SqL.of (e3 _ _ hp2)) (SqL.of k3) ?_
    cases r with
    | nil =>
      walk_at "go"
      refine XS.x_no rfl ?_
      walk_at "go"
      refine ⟨x, rfl, hx2, fun b hb t4 u4 H4 e4 d4 k4 => ?_, fun no => absurd hgot (no a)⟩
      rw [hgot] at hb
      cases hb
      walk_at "go"
      refine XS.x_ixT ((e3.trans e4).seqT hu) (XS.atI_get (i := 0) rfl) ?_
      walk_at "go"
      refine ⟨XS.sz (by simp), fun t5 ht5 => ?_⟩
      obtain ⟨e5, k5⟩ := XS.newly (o := HO.tup _) ht5
      generalize hGH5 : upd _ t5 _ = H5 at e5 k5 ⊢
      walk_at "go"
      have al := pS_al 40 _ a [] (Nat.le_trans hl (by decide)) hgot
      refine ⟨_, _, .tuple [.str "statement", toD a], 119, rfl, rfl, .tup (e5.seqT k4) (.cons (.str _) (.one (Dp.same e5 _ _ d4))), .tup (SqT.of k5) (.cons (.str _) (.one (Dp.same (e3.trans (e4.trans e5)) _ _ ht))), (alB_list (n := 82) (fun d hd => ?_) (by simp)).up (by decide), q _ (e1.trans (e2.trans (e3.trans (e4.trans e5))))⟩
      rcases List.mem_cons.mp hd with rfl | hd
      · exact .str _
      · rw [List.mem_singleton.mp hd]; exact al
    | cons y r =>
      walk_at "go"
      refine XS.x_yes rfl ?_
      walk_at "go"
      have no : ∀ b, pS 40 (wof x) ≠ some (b, []) := fun b hb => by rw [hgot] at hb; cases hb
      refine ⟨x, rfl, hx2, fun b hb => absurd hb (no b), fun _ u4 H4 e4 k4 => ?_⟩
      walk_at "go"
      refine ⟨XS.sz (by simp), fun t5 ht5 => ?_⟩
      obtain ⟨e5, k5⟩ := XS.newly (o := HO.tup _) ht5
      generalize hGH5 : upd _ t5 _ = H5 at e5 k5 ⊢
      walk_at "go"
      refine ⟨_, _, .tuple [.str "no note", .bool true], 119, rfl, rfl, .tup (e5.seqT k4) (.cons (.str _) (.one (.bl _))), .tup (SqT.of k5) (.cons (.str _) (.one (.bl _))), (alB_list (n := 0) (fun d hd => ?_) (by simp)).up (by decide), q _ (e1.trans (e2.trans (e3.trans (e4.trans e5))))⟩
      rcases List.mem_cons.mp hd with rfl | hd
      · exact .str _
      · rw [List.mem_singleton.mp hd]; exact .tru
  · walk_at "go"
    refine ⟨rfl, ?_⟩
    rw [decide_eq_true rfl]
    walk_at "go"
    have no : ∀ b, pS 40 (wof x) ≠ some (b, []) := fun b hb => by rw [hgot] at hb; cases hb
    refine ⟨x, rfl, hx2, fun b hb => absurd hb (no b), fun _ u4 H4 e4 k4 => ?_⟩
    walk_at "go"
    refine ⟨XS.sz (by simp), fun t5 ht5 => ?_⟩
    obtain ⟨e5, k5⟩ := XS.newly (o := HO.tup _) ht5
    generalize hGH5 : upd _ t5 _ = H5 at e5 k5 ⊢
    walk_at "go"
    refine ⟨_, _, .tuple [.str "no note", .bool true], 119, rfl, rfl, .tup (e5.seqT k4) (.cons (.str _) (.one (.bl _))), .tup (SqT.of k5) (.cons (.str _) (.one (.bl _))), (alB_list (n := 0) (fun d hd => ?_) (by simp)).up (by decide), q _ (e1.trans (e2.trans (e4.trans e5)))⟩
    rcases List.mem_cons.mp hd with rfl | hd
    · exact .str _
    · rw [List.mem_singleton.mp hd]; exact .tru

abbrev s__law_changed : Stmt := topS 45
abbrev N__law_changed : List Str := ["_law_words_here", "_law_cell", "_law_others", "_law_spot", "_law_other", "_law_word", "_law_cut"]
abbrev P__law_changed : List Str := ["_law_words_here", "_law_cell"]
theorem sc__law_changed : FnScope N__law_changed P__law_changed (defScope s__law_changed) := ⟨rfl, rfl, rfl, by decide +kernel, rfl, by decide +kernel, by decide +kernel⟩
theorem d__law_changed (F : FunAt K mg "_law_changed" s__law_changed P__law_changed) (Z : Bl mg) (Z2 : Bl2 mg) : DefAt P w K mg base CX0 1 "_law_changed" P__law_changed (sp_changed10 K) := by
  refine F.ok sc__law_changed (fun vs H Q E h => ?_) (fun f cdv A outer s H vs Q E hr h => ?_)
  · obtain ⟨_, _, _, rfl, _⟩ := h
    rfl
  obtain ⟨p, ws, c, rfl, hw, hne, hn, hs, hc, q⟩ := h
  have hpos := List.length_pos_iff.mpr hne
  refine ⟨_, (pss_cons (ps_set (i := 2) sc__law_changed.nd rfl (Or.inl rfl) (pe_lst (pa_cons pe_str (pa_cons pe_str (pa_cons pe_str (pa_cons pe_str (pa_cons pe_str (pa_cons pe_str (pa_cons pe_str (pa_cons pe_str (pa_cons pe_str (pa_cons pe_str (pa_cons pe_str (pa_cons pe_str (pa_cons pe_str pa_nil)))))))))))))))
        (pss_cons (ps_set (i := 2) sc__law_changed.nd rfl (Or.inl rfl) (pe_op op_cat (pv 2) (pe_lst (pa_cons pe_str (pa_cons pe_str (pa_cons (pe_op op_repS pe_str pe_int) (pa_cons pe_str (pa_cons pe_str (pa_cons pe_str (pa_cons pe_str (pa_cons pe_str (pa_cons pe_str (pa_cons pe_str (pa_cons pe_str (pa_cons pe_str pa_nil)))))))))))))))
        (Evl.pss_cut (ps_set (i := 3) sc__law_changed.nd rfl (Or.inl rfl) (pe_op op_modN (pe_op op_fdiv (pv 1) pe_int) (pe_op op_add (pe_callB (call_lenK K) (by rfl) Z.len PySem.boot_len (pa_cons (pv 0) pa_nil)) (pe_callTy call_int1 (by rfl) Z.int (by decide +kernel) (pa_cons (pe_and (pe_cmpR op_gt (pe_op op_mod (pv 1) pe_int) pe_int (nomark _)) (pe_one (pe_cmpR op_lt (pe_op op_mod (pv 1) pe_int) pe_int (nomark _)))) pa_nil)))))
        (pss_cons (ps_set (i := 4) sc__law_changed.nd rfl (Or.inl rfl) (pe_ix (ix_listK K) (pv 2) (pe_op op_mod (pe_op op_fdiv (pv 1) pe_int) pe_int) (fun _ _ => rfl)))
        (pss_cons (ps_if (pt_cmpR op_eq (pe_op op_mod (pv 1) pe_int) pe_int (nomark _))
          (pss_one (ps_ret (pe_op op_cat (pe_slice (sl_listK K) (pv 0) po_none (po_some (pv 3))) (pe_slice (sl_listK K) (pv 0) (po_some (pe_op op_add (pv 3) pe_int)) po_none)))) pss_nil)
        (pss_cons (ps_if (pt_cmpR op_eq (pe_op op_mod (pv 1) pe_int) pe_int (nomark _))
          (pss_one (ps_ret (pe_op op_cat (pe_op op_cat (pe_slice (sl_listK K) (pv 0) po_none (po_some (pv 3))) (pe_lst (pa_cons (pv 4) pa_nil))) (pe_slice (sl_listK K) (pv 0) (po_some (pe_op op_add (pv 3) pe_int)) po_none)))) pss_nil)
        (pss_cons (ps_if (pt_cmpR op_eq (pe_op op_mod (pv 1) pe_int) pe_int (nomark _))
          (pss_one (ps_ret (pe_op op_cat (pe_op op_cat (pe_slice (sl_listK K) (pv 0) po_none (po_some (pv 3))) (pe_lst (pa_cons (pv 4) pa_nil))) (pe_slice (sl_listK K) (pv 0) (po_some (pv 3)) po_none)))) pss_nil)
        (pss_cons (ps_if (pt_cmpR op_eq (pe_op op_mod (pv 1) pe_int) pe_int (nomark _))
          (pss_cons (ps_set (i := 5) sc__law_changed.nd rfl (Or.inl rfl) (pe_ix (ix_listK K) (pv 0) (pv 3) (fun _ _ => rfl)))
        (pss_cons (ps_set (i := 6) sc__law_changed.nd rfl (Or.inl rfl) (pe_op op_modN (pe_op op_fdiv (pv 1) pe_int) (pe_callB (call_max2 rfl) (by rfl) Z2.max (by decide +kernel) (pa_cons pe_int (pa_cons (pe_callB call_len_str (by rfl) Z.len PySem.boot_len (pa_cons (pv 5) pa_nil)) pa_nil)))))
        (pss_one (ps_ret (pe_op op_cat (pe_op op_cat (pe_slice (sl_listK K) (pv 0) po_none (po_some (pv 3))) (pe_lst (pa_cons (pe_op op_add_str (pe_op op_add_str (pe_slice sl_str (pv 5) po_none (po_some (pv 6))) (pe_ix (ix_listK K) (pe_lst (pa_cons pe_str (pa_cons pe_str pa_nil))) (pe_op op_mod (pe_op op_fdiv (pv 1) pe_int) pe_int) (fun _ _ => rfl))) (pe_slice sl_str (pv 5) (po_some (pe_op op_add (pv 6) pe_int)) po_none)) pa_nil))) (pe_slice (sl_listK K) (pv 0) (po_some (pe_op op_add (pv 3) pe_int)) po_none)))))) pss_nil)
        (pss_one (ps_ret (pe_op op_cat (pe_op op_cat (pe_slice (sl_listK K) (pv 0) po_none (po_some (pv 3))) (pe_lst (pa_cons pe_str pa_nil))) (pe_slice (sl_listK K) (pv 0) (po_some (pv 3)) po_none)))))))))))), ?_⟩
  walk_at "go"
  refine ⟨XS.sz (by simp), fun t1 ht1 => ?_⟩
  obtain ⟨e1, k1⟩ := XS.newly (o := HO.lst _) ht1
  generalize hGH1 : upd _ t1 _ = H1 at e1 k1 ⊢
  walk_at "go"
  refine ⟨"1", 61, rfl, rfl, by decide, by decide, by decide +kernel, ?_⟩
  have h61 : (repS "1" (61 : Int).toNat).length ≤ 100 := by rw [repS_len]; decide +kernel
  have small := oth_small h61
  generalize repS "1" (61 : Int).toNat = x61 at h61 small ⊢
  walk_at "go"
  refine ⟨XS.sz (by simp), fun t2 ht2 => ?_⟩
  obtain ⟨e2, k2⟩ := XS.newly (o := HO.lst _) ht2
  generalize hGH2 : upd _ t2 _ = H2 at e2 k2 ⊢
  walk_at "go"
  refine x_catL (e2 _ _ k1) k2 (Nat.le_trans (Nat.le_of_eq rfl : _ ≤ 25) (by decide)) fun t3 H3 ht3 e3 k3 => ?_
  have k3 : H3 t3 = some (.lst ((othA ++ othB x61).map V.str)) := by rw [k3]; rfl
  have hlen : (othA ++ othB x61).length = 25 := rfl
  generalize othA ++ othB x61 = oth at k3 small hlen
  have e13 := e1.trans (e2.trans e3)
  have hw3 := e13 _ _ hw
  have m0 := Int.emod_nonneg c (by decide : (5 : Int) ≠ 0)
  have m1 := Int.emod_lt_of_pos c (by decide : (0 : Int) < 5)
  have d0 : 0 ≤ c / 5 := Int.ediv_nonneg hc (by decide)
  walk_at "go"
  refine XS.x_cut (fun σ H' => ∃ k : Nat, σ = [some (.ref p), some (.int c), some (.ref t3), some (.int k), none, none, none] ∧ H' = H3 ∧ k ≤ ws.length ∧ (c % 5 = 2 ∨ c % 5 = 3 ∨ k < ws.length)) ?_ ?_
  · walk_at "go"
    refine XS.x_lenL (SqL.of hw3) ?_
    rw [List.length_map]
    walk_at "go"
    have fin : ∀ (b : Bool) (Q' : VK), (∀ k : Nat, k ≤ ws.length → (b = true ∨ k < ws.length) → Q' (.int k) H3) → rI (fun x j => j ≠ 0) (fun i j => V.int (i.fmod j)) (V.int (c / 5)) (V.int ((ws.length : Int) + (if b = true then 1 else 0))) H3 Q' := fun b Q' h => by
      have hd : 0 < (ws.length : Int) + (if b = true then 1 else 0) := by split <;> omega
      refine XS.x_I (by omega) ?_
      rw [Int.fmod_eq_emod_of_nonneg _ (by omega)]
      have r0 := Int.emod_nonneg (c / 5) (by omega : (ws.length : Int) + (if b = true then 1 else 0) ≠ 0)
      have r1 := Int.emod_lt_of_pos (c / 5) hd
      obtain ⟨k, hk⟩ : ∃ k : Nat, (c / 5) % ((ws.length : Int) + (if b = true then 1 else 0)) = k := ⟨_, (Int.toNat_of_nonneg r0).symm⟩
      rw [hk] at r1 ⊢
      cases b with
      | true => exact h k (by simp at r1; omega) (.inl rfl)
      | false => exact h k (by simp at r1; omega) (.inr (by simp at r1; omega))
    refine XS.x_d (fun c1 => ?_) (fun c1 => ?_)
    · walk_at "go"
      refine .inr ⟨_, rfl, ?_⟩
      refine ⟨_, _, rfl, rfl, ?_⟩
      refine fin (decide (c % 5 < 4)) _ fun k hk hor => ?_
      exact ⟨k, rfl, rfl, hk, by rcases hor with h | h; have := of_decide_eq_true h; omega; exact .inr (.inr h)⟩
    · walk_at "go"
      refine .inr ⟨_, rfl, ?_⟩
      refine ⟨_, _, rfl, rfl, ?_⟩
      refine fin false _ fun k hk hor => ?_
      exact ⟨k, rfl, rfl, hk, by rcases hor with h | h; cases h; exact .inr (.inr h)⟩
  rintro σ H4 ⟨k, rfl, rfl, hk, hor⟩
  have j0 := Int.emod_nonneg (c / 512) (by decide : (25 : Int) ≠ 0)
  have j1 := Int.emod_lt_of_pos (c / 512) (by decide : (0 : Int) < 25)
  obtain ⟨j, hj⟩ : ∃ j : Nat, c / 512 % 25 = j := ⟨_, (Int.toNat_of_nonneg j0).symm⟩
  have hjo : oth[j]? = some oth[j] := List.getElem?_eq_getElem (by omega)
  generalize oth[j] = y0 at hjo
  have sy := small y0 (List.mem_of_getElem? hjo)
  walk_at "go"
  rw [hj]
  refine XS.x_ixL (SqL.of k3) (XS.atI_get (i := j) (v := .str y0) (by rw [List.getElem?_map, hjo]; rfl)) ?_
  walk_at "go"
  refine XS.x_d (fun c0 => ?_) (fun c0 => ?_)
  · walk_at "go"
    refine x_upto (k := k) (SqL.of hw3) fun t5 H5 ht5 e5 k5 => ?_
    walk_at "go"
    refine x_from (k := k + 1) (SqL.of (e5 _ _ hw3)) fun t6 H6 ht6 e6 k6 => ?_
    refine x_catL (e6 _ _ k5) k6 (by rw [List.length_take, List.length_drop, List.length_map]; exact Nat.le_trans (by omega : _ ≤ 200002) (by decide)) fun t9 H9 ht9 e9 k9 => ?_
    refine q t9 (ws.take k ++ ws.drop (k + 1)) H9 (e13.trans (e5.trans (e6.trans e9))) (by rw [k9, ← List.map_take, ← List.map_drop, ← List.map_append]) (by rw [List.length_append, List.length_take, List.length_drop]; omega) (small_app (small_take hs) (small_drop hs))
  walk_at "go"
  refine XS.x_d (fun c1 => ?_) (fun c1 => ?_)
  · walk_at "go"
    refine x_upto (k := k) (SqL.of hw3) fun t5 H5 ht5 e5 k5 => ?_
    walk_at "go"
    refine ⟨XS.sz (by simp), fun t6 ht6 => ?_⟩
    obtain ⟨e6, k6⟩ := XS.newly (o := HO.lst _) ht6
    generalize hGH6 : upd _ t6 _ = H6 at e6 k6 ⊢
    walk_at "go"
    refine x_catL (e6 _ _ k5) k6 (by rw [List.length_take, List.length_map]; exact Nat.le_trans (by show _ + 1 ≤ 200002; omega) (by decide)) fun t7 H7 ht7 e7 k7 => ?_
    walk_at "go"
    refine x_from (k := k + 1) (SqL.of ((e5.trans (e6.trans e7)) _ _ hw3)) fun t8 H8 ht8 e8 k8 => ?_
    refine x_catL (e8 _ _ k7) k8 (by rw [List.length_append, List.length_take, List.length_drop, List.length_map]; exact Nat.le_trans (by show _ + 1 + _ ≤ 200002; omega) (by decide)) fun t9 H9 ht9 e9 k9 => ?_
    refine q t9 (ws.take k ++ [y0] ++ ws.drop (k + 1)) H9 (e13.trans (e5.trans (e6.trans (e7.trans (e8.trans e9))))) (by rw [k9, ← List.map_take, ← List.map_drop, show [V.str (y0)] = [y0].map V.str from rfl, ← List.map_append, ← List.map_append]) (by rw [List.length_append, List.length_append, List.length_take, List.length_drop]; show _ + 1 + _ ≤ _; omega) (small_app (small_app (small_take hs) (fun w hw => by rw [List.mem_singleton.mp hw]; exact sy)) (small_drop hs))
  walk_at "go"
  refine XS.x_d (fun c2 => ?_) (fun c2 => ?_)
  · walk_at "go"
    refine x_upto (k := k) (SqL.of hw3) fun t5 H5 ht5 e5 k5 => ?_
    walk_at "go"
    refine ⟨XS.sz (by simp), fun t6 ht6 => ?_⟩
    obtain ⟨e6, k6⟩ := XS.newly (o := HO.lst _) ht6
    generalize hGH6 : upd _ t6 _ = H6 at e6 k6 ⊢
    walk_at "go"
    refine x_catL (e6 _ _ k5) k6 (by rw [List.length_take, List.length_map]; exact Nat.le_trans (by show _ + 1 ≤ 200002; omega) (by decide)) fun t7 H7 ht7 e7 k7 => ?_
    walk_at "go"
    refine x_from (k := k) (SqL.of ((e5.trans (e6.trans e7)) _ _ hw3)) fun t8 H8 ht8 e8 k8 => ?_
    refine x_catL (e8 _ _ k7) k8 (by rw [List.length_append, List.length_take, List.length_drop, List.length_map]; exact Nat.le_trans (by show _ + 1 + _ ≤ 200002; omega) (by decide)) fun t9 H9 ht9 e9 k9 => ?_
    refine q t9 (ws.take k ++ [y0] ++ ws.drop (k)) H9 (e13.trans (e5.trans (e6.trans (e7.trans (e8.trans e9))))) (by rw [k9, ← List.map_take, ← List.map_drop, show [V.str (y0)] = [y0].map V.str from rfl, ← List.map_append, ← List.map_append]) (by rw [List.length_append, List.length_append, List.length_take, List.length_drop]; show _ + 1 + _ ≤ _; omega) (small_app (small_app (small_take hs) (fun w hw => by rw [List.mem_singleton.mp hw]; exact sy)) (small_drop hs))
  walk_at "go"
  refine XS.x_d (fun c4 => ?_) (fun c4 => ?_)
  rotate_left
  · walk_at "go"
    refine x_upto (k := k) (SqL.of hw3) fun t5 H5 ht5 e5 k5 => ?_
    walk_at "go"
    refine ⟨XS.sz (by simp), fun t6 ht6 => ?_⟩
    obtain ⟨e6, k6⟩ := XS.newly (o := HO.lst _) ht6
    generalize hGH6 : upd _ t6 _ = H6 at e6 k6 ⊢
    walk_at "go"
    refine x_catL (e6 _ _ k5) k6 (by rw [List.length_take, List.length_map]; exact Nat.le_trans (by show _ + 1 ≤ 200002; omega) (by decide)) fun t7 H7 ht7 e7 k7 => ?_
    walk_at "go"
    refine x_from (k := k) (SqL.of ((e5.trans (e6.trans e7)) _ _ hw3)) fun t8 H8 ht8 e8 k8 => ?_
    refine x_catL (e8 _ _ k7) k8 (by rw [List.length_append, List.length_take, List.length_drop, List.length_map]; exact Nat.le_trans (by show _ + 1 + _ ≤ 200002; omega) (by decide)) fun t9 H9 ht9 e9 k9 => ?_
    refine q t9 (ws.take k ++ [("" : Str)] ++ ws.drop (k)) H9 (e13.trans (e5.trans (e6.trans (e7.trans (e8.trans e9))))) (by rw [k9, ← List.map_take, ← List.map_drop, show [V.str (("" : Str))] = [("" : Str)].map V.str from rfl, ← List.map_append, ← List.map_append]) (by rw [List.length_append, List.length_append, List.length_take, List.length_drop]; show _ + 1 + _ ≤ _; omega) (small_app (small_app (small_take hs) (fun w hw => by rw [List.mem_singleton.mp hw]; exact (by decide +kernel))) (small_drop hs))
  have hkl : k < ws.length := by omega
  have hx : ws[k]? = some ws[k] := List.getElem?_eq_getElem hkl
  generalize ws[k] = x at hx
  have sx := hs x (List.mem_of_getElem? hx)
  walk_at "go"
  refine XS.x_ixL (SqL.of hw3) (XS.atI_get (i := k) (v := .str x) (by rw [List.getElem?_map, hx]; rfl)) ?_
  walk_at "go"
  refine ⟨x, rfl, Nat.le_trans sx (by decide), ?_⟩
  refine ⟨_, _, rfl, ?_⟩
  obtain ⟨mx, hmx, hm1, hm2⟩ : ∃ mx : Int, (if (x.length : Int) > 1 then (x.length : Int) else 1) = mx ∧ 1 ≤ mx ∧ (mx = x.length ∨ mx = 1) := ⟨_, rfl, by split <;> omega, by split; exact .inl rfl; exact .inr rfl⟩
  have hxs : x.length ≤ WL := Nat.le_trans sx (by decide)
  rw [hmx]
  refine XS.x_I (by omega) ?_
  rw [Int.fmod_eq_emod_of_nonneg _ (by omega)]
  have n0 := Int.emod_nonneg (c / 512) (by omega : mx ≠ 0)
  have n1 := Int.emod_lt_of_pos (c / 512) (by omega : 0 < mx)
  obtain ⟨m, hm⟩ : ∃ m : Nat, c / 512 % mx = m := ⟨_, (Int.toNat_of_nonneg n0).symm⟩
  rw [hm] at n1 ⊢
  walk_at "go"
  refine x_upto (k := k) (SqL.of hw3) fun t5 H5 ht5 e5 k5 => ?_
  walk_at "go"
  refine x_slS hxs ?_
  walk_at "go"
  refine ⟨XS.sz (by simp), fun t6 ht6 => ?_⟩
  obtain ⟨e6, k6⟩ := XS.newly (o := HO.lst _) ht6
  generalize hGH6 : upd _ t6 _ = H6 at e6 k6 ⊢
  walk_at "go"
  obtain ⟨g, hg, hgl⟩ : ∃ g : Str, atI [V.str "", V.str "&"] (c / 7 % 2) = some (.str g) ∧ g.length ≤ 1 := by
    rcases (by omega : c / 7 % 2 = 0 ∨ c / 7 % 2 = 1) with e | e <;> rw [e]
    · exact ⟨"", rfl, by decide +kernel⟩
    · exact ⟨"&", rfl, by decide +kernel⟩
  refine XS.x_ixL (SqL.of k6) hg ?_
  have la := upto_len x m
  have lb : (cutS x (some ((m : Int) + 1)) none).length = x.length - (m + 1) := from_len x (m + 1)
  have lab := app_len (cutS x none (some (m : Int))) g
  refine ⟨_, _, rfl, rfl, Nat.le_trans (by omega : _ ≤ 300) (by decide), ?_⟩
  walk_at "go"
  refine x_slS hxs ?_
  have labc := app_len (cutS x none (some (m : Int)) ++ g) (cutS x (some ((m : Int) + 1)) none)
  have big : (cutS x none (some (m : Int)) ++ g ++ cutS x (some ((m : Int) + 1)) none).length ≤ 100 := by omega
  refine ⟨_, _, rfl, rfl, Nat.le_trans (by omega : _ ≤ 300) (by decide), ?_⟩
  generalize cutS x none (some (m : Int)) ++ g ++ cutS x (some ((m : Int) + 1)) none = yy at big ⊢
  walk_at "go"
  refine ⟨XS.sz (by simp), fun t7 ht7 => ?_⟩
  obtain ⟨e7, k7⟩ := XS.newly (o := HO.lst _) ht7
  generalize hGH7 : upd _ t7 _ = H7 at e7 k7 ⊢
  walk_at "go"
  refine x_catL ((e6.trans e7) _ _ k5) k7 (by rw [List.length_take, List.length_map]; exact Nat.le_trans (by show _ + 1 ≤ 200002; omega) (by decide)) fun t8 H8 ht8 e8 k8 => ?_
  walk_at "go"
  refine x_from (k := k + 1) (SqL.of ((e5.trans (e6.trans (e7.trans e8))) _ _ hw3)) fun t9 H9 ht9 e9 k9 => ?_
  refine x_catL (e9 _ _ k8) k9 (by rw [List.length_append, List.length_take, List.length_drop, List.length_map]; exact Nat.le_trans (by show _ + 1 + _ ≤ 200002; omega) (by decide)) fun t10 H10 ht10 e10 k10 => ?_
  refine q t10 (ws.take k ++ [yy] ++ ws.drop (k + 1)) H10 (e13.trans (e5.trans (e6.trans (e7.trans (e8.trans (e9.trans e10)))))) (by rw [k10, ← List.map_take, ← List.map_drop, show [V.str yy] = [yy].map V.str from rfl, ← List.map_append, ← List.map_append]) (by rw [List.length_append, List.length_append, List.length_take, List.length_drop]; show _ + 1 + _ ≤ _; omega) (small_app (small_app (small_take hs) (fun w hw => by rw [List.mem_singleton.mp hw]; exact big)) (small_drop hs))

abbrev s_law : Stmt := topS 48
abbrev N_law : List Str := ["_law_script", "_law_names", "_law_most", "_law_statement", "_law_great", "_law_k", "_law_words_here", "_law_got", "_law_tail", "_law_note", "_law_cell", "_law_inner", "_law_far", "_law_wraps"]
abbrev P_law : List Str := ["_law_script"]
theorem sc_law : FnScope N_law P_law (defScope s_law) := ⟨rfl, rfl, rfl, by decide +kernel, rfl, by decide +kernel, by decide +kernel⟩
theorem d_law {eS eV eP eN : Addr} (Y : Er K mg eS eV eP eN) (C : Cw mg) {fl : Addr} {fdl : FuncData} (F : Fun K "law" "law" s_law fl fdl) (Z : Bl mg) (D__law_cell_at : DefAt P w K mg base CX0 1 "_law_cell_at" P__law_cell_at (sp_cell_at K)) (D__law_names_by : DefAt P w K mg base CX0 1 "_law_names_by" P__law_names_by sp_names_by)
    (D__law_plain_by : DefAt P w K mg base CX0 3 "_law_plain_by" P__law_plain_by (sp_plain_by K)) (D__law_big_by : DefAt P w K mg base CX0 1 "_law_big_by" P__law_big_by sp_big_by) (D__law_bound_by : DefAt P w K mg base CX0 1 "_law_bound_by" P__law_bound_by (sp_bound_by K))
    (D__law_within : DefAt P w K mg base CX0 42 "_law_within" P__law_within (sp_lwithin 41 K)) (D__law_words : DefAt P w K mg base CX0 42 "_law_words" P__law_words (sp_lwords 41 K)) (D_written : DefAt P w K mg base CX0 43 "written" P_written (sp_written K)) (D__law_read : DefAt P w K mg base CX0 85 "_law_read" P__law_read (sp_lread K))
    (D__law_alike : DefAt P w K mg base CX0 121 "_law_alike" P__law_alike (sp_alikeB 120 K)) (D__law_is_due : DefAt P w K mg base CX0 122 "_law_is_due" P__law_is_due (sp_due K)) (D__law_changed : DefAt P w K mg base CX0 1 "_law_changed" P__law_changed (sp_changed10 K)) : FnOk P w K mg base CX0 123 fl fdl P_law (sp_law K) := by
  refine F.ok sc_law (fun vs H Q E h => ?_) (fun cdv A outer s H vs Q E hr h => ?_)
  · obtain ⟨_, _, rfl, _⟩ := h
    rfl
  obtain ⟨a, ns, rfl, hS, h63, q⟩ := h
  have hu := hu_of hr
  obtain ⟨tM, Ci_MW⟩ := C.MOST_WITHIN
  refine ⟨_, (pss_cons (ps_set (i := 1) sc_law.nd rfl (Or.inl rfl) (pe_callD D__law_names_by (hr.mono (by first | exact Nat.le_refl _ | omega | decide)) rfl pass0 (pa_cons (pe_callD D__law_cell_at (hr.mono (by first | exact Nat.le_refl _ | omega | decide)) rfl pass0 (pa_cons (pv 0) (pa_cons pe_int pa_nil))) pa_nil)))
        (pss_cons (ps_set (i := 2) sc_law.nd rfl (Or.inl rfl) (pe_ix (ix_listK K) (pe_lst (pa_cons pe_int (pa_cons (pe_op op_sub (pe_op op_pow pe_int pe_int) pe_int) pa_nil))) (pe_op op_mod (pe_op op_fdiv (pe_callD D__law_cell_at (hr.mono (by first | exact Nat.le_refl _ | omega | decide)) rfl pass0 (pa_cons (pv 0) (pa_cons pe_int pa_nil))) pe_int) pe_int) (fun _ _ => rfl)))
        (pss_cons (ps_set (i := 3) sc_law.nd rfl (Or.inl rfl) (pe_callD D__law_plain_by (hr.mono (by first | exact Nat.le_refl _ | omega | decide)) rfl pass0 (pa_cons (pv 0) (pa_cons pe_int (pa_cons (pe_op op_add pe_int (pe_op op_mod (pe_callD D__law_cell_at (hr.mono (by first | exact Nat.le_refl _ | omega | decide)) rfl pass0 (pa_cons (pv 0) (pa_cons pe_int pa_nil))) pe_int)) (pa_cons (pe_slice (sl_listK K) (pv 1) po_none (po_some pe_int)) (pa_cons pe_int (pa_cons (pv 2) pa_nil))))))))
        (pss_cons (ps_set (i := 4) sc_law.nd rfl (Or.inl rfl) (pe_tup (pa_cons (pe_callD D__law_big_by (hr.mono (by first | exact Nat.le_refl _ | omega | decide)) rfl pass0 (pa_cons (pe_callD D__law_cell_at (hr.mono (by first | exact Nat.le_refl _ | omega | decide)) rfl pass0 (pa_cons (pv 0) (pa_cons pe_int pa_nil))) pa_nil)) (pa_cons (pe_tup (pa_cons (pe_tup (pa_cons (pe_ix (ix_listK K) (pv 1) pe_int (fun _ _ => rfl)) (pa_cons (pe_op op_add (pe_op op_mulW (pe_callD D__law_big_by (hr.mono (by first | exact Nat.le_refl _ | omega | decide)) rfl pass0 (pa_cons (pe_op op_fdiv (pe_callD D__law_cell_at (hr.mono (by first | exact Nat.le_refl _ | omega | decide)) rfl pass0 (pa_cons (pv 0) (pa_cons pe_int pa_nil))) pe_int) pa_nil)) pe_int) pe_int) pa_nil))) pa_nil)) pa_nil))))
        (Evl.pss_cut (ps_if (PW.pt (pw_and (pt_cmpR op_lt (pe_ix (ix_tupK K) (pe_ix (ix_tupK K) (pe_ix (ix_tupK K) (pv 4) pe_int (fun _ _ => rfl)) pe_int (fun _ _ => rfl)) pe_int (fun _ _ => rfl)) (pe_op op_pow pe_int pe_int) (nomark _)) (pw_and1 (pt_cmpR op_gt (pe_ix (ix_tupK K) (pe_ix (ix_tupK K) (pe_ix (ix_tupK K) (pv 4) pe_int (fun _ _ => rfl)) pe_int (fun _ _ => rfl)) pe_int (fun _ _ => rfl)) (pe_op op_sub pe_int (pe_op op_pow pe_int pe_int)) (nomark _)))))
          (pss_one (ps_set (i := 3) sc_law.nd rfl (Or.inl rfl) (pe_tup (pa_cons pe_str (pa_cons (pe_tup (pa_cons (pe_tup (pa_cons pe_str (pa_cons (pv 4) pa_nil))) (pa_cons (pv 3) pa_nil))) pa_nil))))) pss_nil)
        (pss_cons (ps_for PassesOwn.never rfl (pi_range1 rfl Z.range (pa_cons (pe_op op_mod (pe_callD D__law_cell_at (hr.mono (by first | exact Nat.le_refl _ | omega | decide)) rfl pass0 (pa_cons (pv 0) (pa_cons pe_int pa_nil))) pe_int) pa_nil)) (pg_name (i := 5) sc_law.nd rfl (Or.inl rfl))
          (pss_one (ps_set (i := 3) sc_law.nd rfl (Or.inl rfl) (pe_callD D__law_bound_by (hr.mono (by first | exact Nat.le_refl _ | omega | decide)) rfl pass0 (pa_cons (pe_callD D__law_cell_at (hr.mono (by first | exact Nat.le_refl _ | omega | decide)) rfl pass0 (pa_cons (pv 0) (pa_cons (pe_op op_add pe_int (pv 5)) pa_nil))) (pa_cons (pv 3) (pa_cons (pv 1) pa_nil)))))))
        (Evl.pss_cut (ps_if (pt_cmpR op_eq (pe_op op_mod (pe_callD D__law_cell_at (hr.mono (by first | exact Nat.le_refl _ | omega | decide)) rfl pass0 (pa_cons (pv 0) (pa_cons pe_int pa_nil))) pe_int) pe_int (nomark _))
          (pss_one (ps_for PassesOwn.never rfl (pi_range1 rfl Z.range (pa_cons (pe_op op_sub (pe_op op_add pe_int (pe_op op_mod (pe_op op_fdiv (pe_callD D__law_cell_at (hr.mono (by first | exact Nat.le_refl _ | omega | decide)) rfl pass0 (pa_cons (pv 0) (pa_cons pe_int pa_nil))) pe_int) pe_int)) (pe_callD D__law_within (hr.mono (by first | exact Nat.le_refl _ | omega | decide)) rfl pass0 (pa_cons (pv 3) pa_nil))) pa_nil)) (pg_name (i := 5) sc_law.nd rfl (Or.inl rfl))
          (pss_cons (ps_set (i := 11) sc_law.nd rfl (Or.inl rfl) (pe_ix (ix_listK K) (pe_lst (pa_cons pe_str (pa_cons pe_str pa_nil))) (pe_op op_mod (pe_op op_fdiv (pv 5) pe_int) pe_int) (fun _ _ => rfl)))
        (pss_cons (ps_set (i := 12) sc_law.nd rfl (Or.inl rfl) (pe_op op_add (pe_op op_fdiv (pe_callD D__law_cell_at (hr.mono (by first | exact Nat.le_refl _ | omega | decide)) rfl pass0 (pa_cons (pv 0) (pa_cons pe_int pa_nil))) pe_int) (pv 5)))
        (pss_cons (ps_set (i := 13) sc_law.nd rfl (Or.inl rfl) (pe_lst (pa_cons (pe_tup (pa_cons pe_str (pa_cons (pv 3) pa_nil))) (pa_cons (pe_tup (pa_cons pe_str (pa_cons (pe_tup (pa_cons (pv 3) pa_nil)) pa_nil))) (pa_cons (pe_tup (pa_cons (pv 11) (pa_cons (pe_ix (ix_listK K) (pv 1) (pe_op op_mod (pe_op op_fdiv (pv 12) pe_int) pe_int) (fun _ _ => rfl)) (pa_cons (pv 3) pa_nil)))) pa_nil)))))
        (pss_one (ps_set (i := 3) sc_law.nd rfl (Or.inl rfl) (pe_ix (ix_listK K) (pe_op op_cat (pv 13) (pe_lst (pa_cons (pe_tup (pa_cons pe_str (pa_cons (pe_tup (pa_cons (pv 3) pa_nil)) pa_nil))) (pa_cons (pe_tup (pa_cons pe_str (pa_cons (pv 3) pa_nil))) pa_nil)))) (pe_op op_mod (pv 12) pe_int) (fun _ _ => rfl))))))))) pss_nil)
        (pss_cons (ps_set (i := 6) sc_law.nd rfl (Or.inl rfl) (pe_callD D__law_words (hr.mono (by first | exact Nat.le_refl _ | omega | decide)) rfl pass0 (pa_cons (pv 3) pa_nil)))
        (pss_cons (ps_set (i := 7) sc_law.nd rfl (Or.inl rfl) (pe_joinK K pe_str (pv 6)))
        (pss_cons (ps_if (pt_cmpR op_ne (pe_glob (v := .int _) rfl Ci_MW ⟨_, rfl⟩) pe_int (nomark _))
          (pss_one (ps_ret pe_bl)) pss_nil)
        (Evl.pss_cut (ps_if (pt_cmpR op_le (pe_callD D__law_within (hr.mono (by first | exact Nat.le_refl _ | omega | decide)) rfl pass0 (pa_cons (pv 3) pa_nil)) pe_int (nomark _))
          (pss_cons (ps_set (i := 9) sc_law.nd rfl (Or.inl rfl) (pe_callD D_written (hr.mono (by first | exact Nat.le_refl _ | omega | decide)) rfl pass0 (pa_cons (pv 3) pa_nil)))
        (pss_one (ps_if (PW.pt (pw_or (pt_not (pt_val (pe_callB (call_isiK K) (by rfl) Z.isinstance (by decide +kernel) (pa_cons (pv 9) (pa_cons (pe_bltn (v := .ty "str") rfl Z.str (by decide +kernel) rfl) pa_nil))))) (pw_or (pt_cmpR op_ne (pv 9) (pv 7) (nomark _)) (pw_or1 (pt_not (pt_val (pe_callD D__law_alike (hr.mono (by first | exact Nat.le_refl _ | omega | decide)) rfl pass0 (pa_cons (pe_callD D__law_read (hr.mono (by first | exact Nat.le_refl _ | omega | decide)) rfl pass0 (pa_cons (pv 7) pa_nil)) (pa_cons (pe_tup (pa_cons pe_str (pa_cons (pv 3) pa_nil))) pa_nil)))))))))
          (pss_one (ps_ret pe_bl)) pss_nil))) pss_nil)
        (pss_cons (ps_set (i := 8) sc_law.nd rfl (Or.inl rfl) (pe_ix (ix_listK K) (pe_lst (pa_cons pe_str (pa_cons pe_str (pa_cons pe_str (pa_cons pe_str pa_nil))))) (pe_op op_mod (pe_op op_fdiv (pe_callD D__law_cell_at (hr.mono (by first | exact Nat.le_refl _ | omega | decide)) rfl pass0 (pa_cons (pv 0) (pa_cons pe_int pa_nil))) pe_int) pe_int) (fun _ _ => rfl)))
        (pss_cons (ps_if (PW.pt (pw_or (pt_not (pt_val (pe_callD D__law_is_due (hr.mono (by first | exact Nat.le_refl _ | omega | decide)) rfl pass0 (pa_cons (pv 7) pa_nil)))) (pw_or (pt_not (pt_val (pe_callD D__law_is_due (hr.mono (by first | exact Nat.le_refl _ | omega | decide)) rfl pass0 (pa_cons (pe_op op_add_str (pv 7) (pv 8)) pa_nil)))) (pw_or1 (pt_not (pt_val (pe_callD D__law_is_due (hr.mono (by first | exact Nat.le_refl _ | omega | decide)) rfl pass0 (pa_cons (pe_op op_add_str (pv 8) (pv 7)) pa_nil))))))))
          (pss_one (ps_ret pe_bl)) pss_nil)
        (pss_cons (ps_for PassesOwn.never rfl (pi_range1 rfl Z.range (pa_cons pe_int pa_nil)) (pg_name (i := 5) sc_law.nd rfl (Or.inl rfl))
          (pss_cons (ps_set (i := 10) sc_law.nd rfl (Or.inl rfl) (pe_op op_mod (pe_op op_mul (pe_op op_add (pe_op op_add (pe_op op_fdiv (pe_callD D__law_cell_at (hr.mono (by first | exact Nat.le_refl _ | omega | decide)) rfl pass0 (pa_cons (pv 0) (pa_cons pe_int pa_nil))) pe_int) pe_int) (pv 5)) pe_int) pe_int))
        (pss_one (ps_if (pt_not (pt_val (pe_callD D__law_is_due (hr.mono (by first | exact Nat.le_refl _ | omega | decide)) rfl pass0 (pa_cons (pe_joinK K pe_str (pe_callD D__law_changed (hr.mono (by first | exact Nat.le_refl _ | omega | decide)) rfl pass0 (pa_cons (pv 6) (pa_cons (pv 10) pa_nil)))) pa_nil))))
          (pss_one (ps_ret pe_bl)) pss_nil))))
        (pss_one (ps_ret pe_bl)))))))))))))))), ?_⟩
  walk_at "go"
  refine ⟨a, ns, 0, rfl, by decide, hS, ?_⟩
  walk_at "go"
  refine ⟨_, rfl, fun nl H1 hnl e1 h1 => ?_⟩
  walk_at "go"
  have hLen : (namesBy (cell ns 0)).length = 4 := namesBy_len _
  have hNd : (namesBy (cell ns 0)).Nodup := namesBy_nd _
  have hAt : ∀ n : Int, 0 ≤ n → n < 4 → ∃ x, atI ((namesBy (cell ns 0)).map V.str) n = some (.str x) ∧ x ∈ namesBy (cell ns 0) := fun n h1 h2 => names_at h1 h2
  have hW : ∀ x ∈ namesBy (cell ns 0), Word (cs x) := fun x hx => namesBy_word hx
  generalize namesBy (cell ns 0) = nm at h1 hLen hNd hAt hW ⊢
  refine ⟨XS.sz (by simp), fun l2 hl2 => ?_⟩
  obtain ⟨e2, h2⟩ := XS.newly (o := HO.lst _) hl2
  generalize hGH2 : upd _ l2 _ = H2 at e2 h2 ⊢
  walk_at "go"
  refine ⟨a, ns, 1, rfl, by decide, (e1.trans e2).seq hS, ?_⟩
  walk_at "go"
  have hb0 := Int.emod_nonneg (cell ns 1 / 5) (by decide : (2 : Int) ≠ 0)
  have hb1 := Int.emod_lt_of_pos (cell ns 1 / 5) (by decide : (0 : Int) < 2)
  obtain ⟨most, hmo, hm0, hm1⟩ : ∃ most : Int, atI [V.int 6, V.int (10 ^ Int.toNat 60 - 1)] (cell ns 1 / 5 % 2) = some (.int most) ∧ 0 < most ∧ most < 10 ^ 60 := by
    rcases (by omega : cell ns 1 / 5 % 2 = 0 ∨ cell ns 1 / 5 % 2 = 1) with e | e <;> rw [e] <;> exact ⟨_, rfl, by decide, by decide⟩
  refine XS.x_ixL (SqL.of h2) hmo ?_
  walk_at "go"
  have n2 : H2 nl = some (.lst (nm.map V.str)) := e2 _ _ h1
  refine ⟨a, ns, 1, rfl, by decide, (e1.trans e2).seq hS, ?_⟩
  walk_at "go"
  refine ⟨nl, nm.map V.str, rfl, SqL.of n2, fun p3 hp3 => ?_⟩
  rw [cut_take3, ← List.map_take]
  obtain ⟨e3, h3⟩ := XS.newly (o := HO.lst _) hp3
  generalize hH3 : upd _ p3 _ = H3 at e3 h3 ⊢
  walk_at "go"
  have hNd3 : (nm.take 3).Nodup := hNd.sublist (List.take_sublist 3 nm)
  have hL3 : (nm.take 3).length ≤ 3 := by rw [List.length_take]; omega
  have c0 := Int.emod_nonneg (cell ns 1) (by decide : (5 : Int) ≠ 0)
  have c1 := Int.emod_lt_of_pos (cell ns 1) (by decide : (0 : Int) < 5)
  have e13 := e1.trans (e2.trans e3)
  refine ⟨a, ns, 9, 1 + cell ns 1 % 5, 3, most, p3, nm.take 3, rfl, e13.seq hS, by decide, by decide, by omega, by omega, SqL.of h3, hNd3, by omega, by decide, by decide, hm0, fun t4 H4 e4 d4 => ?_⟩
  walk_at "go"
  have G0 : Dr 1120 16 (plainBy ns 9 (1 + cell ns 1 % 5) (nm.take 3) 3 most) := dr_plain (by decide) (by decide) hm0 hm1 (fun x hx => hW x (List.mem_of_mem_take hx)) hL3 (by omega)
  generalize hS0 : plainBy ns 9 (1 + cell ns 1 % 5) (nm.take 3) 3 most = S0 at d4 G0
  have n4 : H4 nl = some (.lst (nm.map V.str)) := e4 _ _ (e3 _ _ n2)
  have hS4 := (e13.trans e4).seq hS
  refine ⟨a, ns, 2, rfl, by decide, hS4, ?_⟩
  walk_at "go"
  refine ⟨_, rfl, fun H5 e5 => ?_⟩
  walk_at "go"
  obtain ⟨x3, hx3, hxm3⟩ := hAt 3 (by decide) (by decide)
  have n5 : H5 nl = some (.lst (nm.map V.str)) := e5 _ _ n4
  refine XS.x_ixL (SqL.of n5) hx3 ?_
  walk_at "go"
  refine ⟨a, ns, 3, rfl, by decide, e5.seq hS4, ?_⟩
  walk_at "go"
  refine ⟨_, rfl, fun H6 e6 => ?_⟩
  walk_at "go"
  refine XS.x_I (mul_ok (sml_big _) (sml_small (by decide))) ?_
  walk_at "go"
  refine ⟨XS.sz (by simp), fun t7 ht7 => ?_⟩
  obtain ⟨e7, h7⟩ := XS.newly (o := HO.tup _) ht7
  generalize hGH7 : upd _ t7 _ = H7 at e7 h7 ⊢
  walk_at "go"
  refine ⟨XS.sz (by simp), fun t8 ht8 => ?_⟩
  obtain ⟨e8, h8⟩ := XS.newly (o := HO.tup _) ht8
  generalize hGH8 : upd _ t8 _ = H8 at e8 h8 ⊢
  walk_at "go"
  refine ⟨XS.sz (by simp), fun t9 ht9 => ?_⟩
  obtain ⟨e9, h9⟩ := XS.newly (o := HO.tup _) ht9
  generalize hGH9 : upd _ t9 _ = H9 at e9 h9 ⊢
  walk_at "go"
  have n9 : H9 nl = some (.lst (nm.map V.str)) := e9 _ _ (e8 _ _ (e7 _ _ (e6 _ _ n5)))
  refine XS.x_cut (fun σ H' => ∃ (tS : Addr) (S : Stm), σ = [some (.ref a), some (.ref nl), some (.int most), some (.ref tS), some (.ref t9), none, none, none, none, none, none, none, none, none] ∧ Same H9 H' ∧ Dp K H' (.ref tS) (toD S) ∧ Dr 1127 17 S) ?_ ?_
  · walk_at "go"
    refine XS.x_ixT (SqT.of h9) (XS.atI_get (i := 1) rfl) ?_
    walk_at "go"
    refine XS.x_ixT (SqT.of (e9 _ _ h8)) (XS.atI_get (i := 0) rfl) ?_
    walk_at "go"
    refine XS.x_ixT (SqT.of (e9 _ _ (e8 _ _ h7))) (XS.atI_get (i := 1) rfl) ?_
    walk_at "go"
    refine XS.x_d (fun c => ?_) (fun c => ?_)
    · walk_at "go"
      refine XS.x_ixT (SqT.of h9) (XS.atI_get (i := 1) rfl) ?_
      walk_at "go"
      refine XS.x_ixT (SqT.of (e9 _ _ h8)) (XS.atI_get (i := 0) rfl) ?_
      walk_at "go"
      refine XS.x_ixT (SqT.of (e9 _ _ (e8 _ _ h7))) (XS.atI_get (i := 1) rfl) ?_
      walk_at "go"
      refine XS.x_d (fun c2 => ?_) (fun c2 => ?_)
      · walk_at "go"
        refine ⟨XS.sz (by simp), fun t10 ht10 => ?_⟩
        obtain ⟨e10, h10⟩ := XS.newly (o := HO.tup _) ht10
        generalize hGH10 : upd _ t10 _ = H10 at e10 h10 ⊢
        walk_at "go"
        refine ⟨XS.sz (by simp), fun t11 ht11 => ?_⟩
        obtain ⟨e11, h11⟩ := XS.newly (o := HO.tup _) ht11
        generalize hGH11 : upd _ t11 _ = H11 at e11 h11 ⊢
        walk_at "go"
        refine ⟨XS.sz (by simp), fun t12 ht12 => ?_⟩
        obtain ⟨e12, h12⟩ := XS.newly (o := HO.tup _) ht12
        generalize hGH12 : upd _ t12 _ = H12 at e12 h12 ⊢
        walk_at "go"
        have tt : (10 : Int) ^ Int.toNat 60 = 10 ^ 60 := rfl
        rw [tt] at c c2
        generalize hgg : bigBy (cell ns 3 / 2) * 2 + 1 = gg at c c2 h7
        have g1 : gg.natAbs < 10 ^ 60 := by
          have : ((10 ^ 60 : Nat) : Int) = (10 : Int) ^ 60 := by decide
          generalize (10 : Int) ^ 60 = B at c c2 this
          omega
        have g0 : gg ≠ 0 := by omega
        have dg : Dp K H9 (.ref t9) (sumD (greatS (bigBy (cell ns 2)) gg x3)) := Dp.mkSum (SqT.of h9) (SqT.of (e9 _ _ h8)) (.one (Dp.mkPair (p := (x3, gg)) (SqT.of (e9 _ _ (e8 _ _ h7)))))
        have dn : Dp K H12 (.ref t10) (toD (.nought (greatS (bigBy (cell ns 2)) gg x3))) := XS.Dp.mkNought (SqT.of (e12 _ _ (e11 _ _ h10))) (Dp.same (e10.trans (e11.trans e12)) _ _ dg)
        exact ⟨t12, .con false [.nought (greatS (bigBy (cell ns 2)) gg x3), S0], rfl, e10.trans (e11.trans e12), XS.Dp.mkCon (o := false) (l := [.nought (greatS (bigBy (cell ns 2)) gg x3), S0]) (SqT.of h12) rfl (SqT.of (e12 _ _ h11)) (.cons dn (.one (Dp.same (e5.trans (e6.trans (e7.trans (e8.trans (e9.trans (e10.trans (e11.trans e12))))))) _ _ d4))), dr_great G0 (bigBy_b _) g1 g0 (hW x3 hxm3)⟩
      · exact ⟨t4, S0, rfl, Same.refl _, Dp.same (e5.trans (e6.trans (e7.trans (e8.trans e9)))) _ _ d4, G0.mono (by decide) (by decide)⟩
    · exact ⟨t4, S0, rfl, Same.refl _, Dp.same (e5.trans (e6.trans (e7.trans (e8.trans e9)))) _ _ d4, G0.mono (by decide) (by decide)⟩
  rintro σ H10 ⟨tS, S, rfl, e10, dS, G⟩
  have e4X := e5.trans (e6.trans (e7.trans (e8.trans (e9.trans e10))))
  have hS10 := e4X.seq hS4
  have n10 := e10 _ _ n9
  clear d4 G0 hS0 h7 h8 h9 n9 hS4 n4 n5 n2 e4X e13 hH3 h3
  walk_at "go"
  refine ⟨a, ns, 4, rfl, by decide, hS10, ?_⟩
  walk_at "go"
  have k0 := Int.emod_nonneg (cell ns 4) (by decide : (4 : Int) ≠ 0)
  have k1 := Int.emod_lt_of_pos (cell ns 4) (by decide : (0 : Int) < 4)
  refine XS.x_forR1 ⟨by omega, by omega⟩ (fun i σ H' => ∃ (y5 : Option V) (tT : Addr), σ = [some (.ref a), some (.ref nl), some (.int most), some (.ref tT), some (.ref t9), y5, none, none, none, none, none, none, none, none] ∧ Same H10 H' ∧ Dp K H' (.ref tT) (toD (boundRun (fun k => cell ns (5 + k)) nm S i))) ⟨none, tS, rfl, Same.refl _, dS⟩ ?_ ?_
  · rintro i σ H' hi ⟨y5, tT, rfl, e11, d11⟩
    walk_at "go"
    refine ⟨a, ns, 5 + i, rfl, by omega, e11.seq hS10, ?_⟩
    walk_at "go"
    refine ⟨cell ns (5 + i), _, nl, _, nm, rfl, d11, SqL.of (e11 _ _ n10), hLen, fun t6 H6 e6 d6 => ?_⟩
    walk_at "go"
    exact ⟨_, t6, rfl, e11.trans e6, d6⟩
  rintro σ H11 ⟨y5, tT, rfl, e11, d11⟩
  have GB : Dr 9079 29 (boundRun (fun k => cell ns (5 + k)) nm S (cell ns 4 % 4).toNat) := dr_bounds hW hLen G _ (by omega)
  generalize boundRun (fun k => cell ns (5 + k)) nm S (cell ns 4 % 4).toNat = B at d11 GB
  have hS11 := e11.seq hS10
  have n11 := e11 _ _ n10
  clear dS G hS10 n10 k0 k1
  walk_at "go"
  refine XS.x_cut (fun σ H' => ∃ (y5 y6 y7 y8 : Option V) (tT : Addr) (T : Stm), σ = [some (.ref a), some (.ref nl), some (.int most), some (.ref tT), some (.ref t9), y5, none, none, none, none, none, y6, y7, y8] ∧ Same H11 H' ∧ Dp K H' (.ref tT) (toD T) ∧ Dr 9161 41 T) ?_ ?_
  · walk_at "go"
    refine ⟨a, ns, 8, rfl, by decide, hS11, ?_⟩
    walk_at "go"
    refine XS.x_d (fun c => ?_) (fun c => ?_)
    · walk_at "go"
      refine ⟨a, ns, 8, rfl, by decide, hS11, ?_⟩
      walk_at "go"
      refine ⟨_, B, rfl, d11, Nat.le_trans GB.dp (by decide), Nat.le_trans GB.wl (by decide), fun H12 e12 => ?_⟩
      walk_at "go"
      have m0 := Int.emod_nonneg (cell ns 8 / 4) (by decide : (2 : Int) ≠ 0)
      have m1 := Int.emod_lt_of_pos (cell ns 8 / 4) (by decide : (0 : Int) < 2)
      have mb := GB.dp
      have hS12 := e12.seq hS11
      have n12 := e12 _ _ n11
      refine XS.x_forR1 ⟨by omega, by omega⟩ (fun i σ H' => ∃ (y5 y6 y7 y8 : Option V) (tT : Addr), σ = [some (.ref a), some (.ref nl), some (.int most), some (.ref tT), some (.ref t9), y5, none, none, none, none, none, y6, y7, y8] ∧ Same H12 H' ∧ Dp K H' (.ref tT) (toD (wrapRun (cell ns 8 / 32) nm B i))) ⟨y5, none, none, none, tT, rfl, Same.refl _, Dp.same e12 _ _ d11⟩ ?_ ?_
      · rintro i σ H' hi ⟨y5, y6, y7, y8, tT, rfl, e13, d13⟩
        walk_at "go"
        refine ⟨XS.sz (by simp), fun l14 hl14 => ?_⟩
        obtain ⟨e14, h14⟩ := XS.newly (o := HO.lst _) hl14
        generalize hGH14 : upd _ l14 _ = H14 at e14 h14 ⊢
        walk_at "go"
        have j0 : (0 : Int) ≤ i := Int.natCast_nonneg i
        obtain ⟨wo, hwo, hwb⟩ : ∃ wo : Str, atI [V.str "some", V.str "all"] ((i : Int) / 5 % 2) = some (.str wo) ∧ wo = bndW (decide ((i : Int) / 5 % 2 = 1)) := by
          rcases (by omega : (i : Int) / 5 % 2 = 0 ∨ (i : Int) / 5 % 2 = 1) with e | e <;> rw [e] <;> exact ⟨_, rfl, rfl⟩
        refine XS.x_ixL (SqL.of h14) hwo ?_
        walk_at "go"
        have e124 := e13.trans e14
        refine ⟨a, ns, 8, rfl, by decide, e124.seq hS12, ?_⟩
        walk_at "go"
        refine ⟨XS.sz (by simp), fun t15 ht15 => ?_⟩
        obtain ⟨e15, h15⟩ := XS.newly (o := HO.tup _) ht15
        generalize hGH15 : upd _ t15 _ = H15 at e15 h15 ⊢
        walk_at "go"
        refine ⟨XS.sz (by simp), fun t16 ht16 => ?_⟩
        obtain ⟨e16, h16⟩ := XS.newly (o := HO.tup _) ht16
        generalize hGH16 : upd _ t16 _ = H16 at e16 h16 ⊢
        walk_at "go"
        refine ⟨XS.sz (by simp), fun t17 ht17 => ?_⟩
        obtain ⟨e17, h17⟩ := XS.newly (o := HO.tup _) ht17
        generalize hGH17 : upd _ t17 _ = H17 at e17 h17 ⊢
        walk_at "go"
        generalize hfar : cell ns 8 / 32 + (i : Int) = far
        have hAtD : ∃ x, atI (nm.map V.str) (far / 5 % 4) = some (.str x) ∧ x = nm.getD (far / 5 % 4).toNat "" := by
          have hn0 := Int.emod_nonneg (far / 5) (by decide : (4 : Int) ≠ 0)
          have hn1 := Int.emod_lt_of_pos (far / 5) (by decide : (0 : Int) < 4)
          generalize far / 5 % 4 = n at hn0 hn1 ⊢
          obtain ⟨j, rfl⟩ := Int.eq_ofNat_of_zero_le hn0
          have hj : j < nm.length := by omega
          refine ⟨nm[j], atI_nat (by rw [List.getElem?_map, List.getElem?_eq_getElem hj]; rfl), ?_⟩
          show nm[j] = nm.getD ((j : Int)).toNat ""
          rw [Int.toNat_natCast, List.getD_eq_getElem?_getD, List.getElem?_eq_getElem hj]
          rfl
        obtain ⟨x, hx, hxe⟩ := hAtD
        have e127 := e14.trans (e15.trans (e16.trans e17))
        refine XS.x_ixL (SqL.of (e127 _ _ (e13 _ _ n12))) hx ?_
        walk_at "go"
        refine ⟨XS.sz (by simp), fun t18 ht18 => ?_⟩
        obtain ⟨e18, h18⟩ := XS.newly (o := HO.tup _) ht18
        generalize hGH18 : upd _ t18 _ = H18 at e18 h18 ⊢
        walk_at "go"
        refine ⟨XS.sz (by simp), fun l19 hl19 => ?_⟩
        obtain ⟨e19, h19⟩ := XS.newly (o := HO.lst _) hl19
        generalize hGH19 : upd _ l19 _ = H19 at e19 h19 ⊢
        walk_at "go"
        refine ⟨XS.sz (by simp), fun t20 ht20 => ?_⟩
        obtain ⟨e20, h20⟩ := XS.newly (o := HO.tup _) ht20
        generalize hGH20 : upd _ t20 _ = H20 at e20 h20 ⊢
        walk_at "go"
        refine ⟨XS.sz (by simp), fun t21 ht21 => ?_⟩
        obtain ⟨e21, h21⟩ := XS.newly (o := HO.tup _) ht21
        generalize hGH21 : upd _ t21 _ = H21 at e21 h21 ⊢
        walk_at "go"
        refine ⟨XS.sz (by simp), fun t22 ht22 => ?_⟩
        obtain ⟨e22, h22⟩ := XS.newly (o := HO.tup _) ht22
        generalize hGH22 : upd _ t22 _ = H22 at e22 h22 ⊢
        walk_at "go"
        refine ⟨XS.sz (by simp), fun l23 hl23 => ?_⟩
        obtain ⟨e23, h23⟩ := XS.newly (o := HO.lst _) hl23
        generalize hGH23 : upd _ l23 _ = H23 at e23 h23 ⊢
        walk_at "go"
        refine x_catL ((e20.trans (e21.trans (e22.trans e23))) _ _ h19) h23 (by show 3 + 2 ≤ WL; decide) fun t24 H24 ht24 e24 h24 => ?_
        walk_at "go"
        have e224 := e23.trans e24
        have e214 := e22.trans e224
        have e204 := e21.trans e214
        have e194 := e20.trans e204
        have e184 := e19.trans e194
        have e174 := e18.trans e184
        have e164 := e17.trans e174
        have e154 := e16.trans e164
        have e144 := e15.trans e154
        have eAll := e13.trans (e14.trans e144)
        have d24 := Dp.same (e14.trans e144) _ _ d13
        have hstep : wrapRun (cell ns 8 / 32) nm B (i + 1) = wrapBy i far nm (wrapRun (cell ns 8 / 32) nm B i) := by rw [← hfar]; rfl
        generalize hW0 : wrapRun (cell ns 8 / 32) nm B i = W0 at d24 hstep
        obtain ⟨tN, hN, dN⟩ : ∃ tN : Addr, atI [V.ref t15, .ref t17, .ref t18, .ref t21, .ref t22] (far % 5) = some (.ref tN) ∧ Dp K H24 (.ref tN) (toD (wrapBy i far nm W0)) := by
          unfold wrapBy
          rcases (by omega : far % 5 = 0 ∨ far % 5 = 1 ∨ far % 5 = 2 ∨ far % 5 = 3 ∨ far % 5 = 4) with e | e | e | e | e <;> rw [e]
          · exact ⟨t15, rfl, XS.Dp.mkNeg (e154.seqT (SqT.of h15)) d24⟩
          · exact ⟨t17, rfl, XS.Dp.mkCon (o := true) (l := [W0]) (e174.seqT (SqT.of h17)) rfl (e164.seqT (SqT.of h16)) (.one d24)⟩
          · refine ⟨t18, rfl, ?_⟩
            have := XS.Dp.mkBnd (K := K) (H := H24) (o := decide ((i : Int) / 5 % 2 = 1)) (a := W0) (e184.seqT (SqT.of h18)) hwb d24
            rw [hxe] at this
            exact this
          · exact ⟨t21, rfl, XS.Dp.mkCon (o := false) (l := [W0]) (e214.seqT (SqT.of h21)) rfl (e204.seqT (SqT.of h20)) (.one d24)⟩
          · exact ⟨t22, rfl, XS.Dp.mkNeg (e224.seqT (SqT.of h22)) d24⟩
        refine XS.x_ixL (SqL.of h24) hN ?_
        walk_at "go"
        rw [← hstep] at dN
        exact ⟨_, _, _, _, tN, rfl, eAll, dN⟩
      · rintro σ H' ⟨y5, y6, y7, y8, tT, rfl, e13, d13⟩
        exact ⟨y5, y6, y7, y8, tT, _, rfl, e12.trans e13, d13, dr_wraps hW hLen GB (by omega)⟩
    · exact ⟨y5, none, none, none, tT, B, rfl, Same.refl _, d11, GB.mono (by decide) (by decide)⟩
  rintro σ H12 ⟨y5', y6, y7, y8, tT', T, rfl, e12, dT, GT⟩
  clear d11 GB
  have hS12 := e12.seq hS11
  walk_at "go"
  refine ⟨_, T, rfl, dT, GT.nt, GT.dp, Nat.le_trans GT.wl (by decide), fun lw H13 e13 h13 => ?_⟩
  walk_at "go"
  refine ⟨⟨_, rfl⟩, ?_⟩
  walk_at "go"
  refine ⟨" ", lw, wds T, rfl, rfl, .inl (SqL.of h13), ?_, ?_⟩
  · have h2 := sum_le fun w hw => (wd_wds GT.nt w hw).1
    have h3 : (" " : Str).length = 1 := by decide +kernel
    have h4 := GT.wl
    rw [h3]
    omega
  have nlen := note_len GT
  have hwz : wds T ≠ [] := wds_ne T
  obtain ⟨N, hN⟩ : ∃ N : Str, N = Txt.join " " (wds T) := ⟨_, rfl⟩
  rw [← hN] at nlen ⊢
  have e123 := e12.trans e13
  have d13 := Dp.same e13 _ _ dT
  have hS13 := e123.seq hS11
  clear hS12 dT hS11 n11
  walk_at "go"
  refine XS.x_no (by decide) ?_
  walk_at "go"
  refine XS.x_cut (fun σ H' => ∃ y9 : Option V, σ = [some (.ref a), some (.ref nl), some (.int most), some (.ref tT'), some (.ref t9), y5', some (.ref lw), some (.str N), none, y9, none, y6, y7, y8] ∧ Same H13 H') ?_ ?_
  · walk_at "go"
    refine ⟨_, T, rfl, d13, GT.dp, Nat.le_trans GT.wl (by decide), fun H14 e14 => ?_⟩
    walk_at "go"
    refine XS.x_d (fun c => ?_) (fun c => ?_)
    · walk_at "go"
      have c40 : dep T ≤ 40 := by omega
      refine ⟨_, T, rfl, Dp.same e14 _ _ d13, GT.nt, c40, Nat.le_trans GT.wl (by decide), fun H15 e15 => ?_⟩
      rw [← hN]
      walk_at "go"
      refine XS.x_isi (.base (.str N)) XS.k_str_str ?_
      refine ⟨true, rfl, ?_⟩
      refine XS.x_no rfl ?_
      walk_at "go"
      refine XS.x_no (by simp) ?_
      walk_at "go"
      have hrd := note_read GT c40
      rw [← hN] at hrd
      refine ⟨N, rfl, Nat.le_trans (by omega : _ ≤ 600002) (by decide), fun b hb t16 u16 H16 e16 d16 k16 => ?_, fun no => absurd hrd (no T)⟩
      rw [hrd] at hb
      cases hb
      walk_at "go"
      refine ⟨XS.sz (by simp), fun t17 ht17 => ?_⟩
      obtain ⟨e17, h17⟩ := XS.newly (o := HO.tup _) ht17
      generalize hGH17 : upd _ t17 _ = H17 at e17 h17 ⊢
      walk_at "go"
      have wl : (wof N).length ≤ WL := by
        rw [hN, wof_join (wds_ne T) (wd_wds GT.nt)]
        exact Nat.le_trans GT.wl (by decide)
      have al := pS_al 40 (wof N) T [] wl hrd
      refine ⟨_, _, .tuple [.str "statement", toD T], 119, rfl, rfl, .tup (e17.seqT k16) (.cons (.str _) (.one (Dp.same e17 _ _ d16))), .tup (SqT.of h17) (.cons (.str _) (.one (Dp.same (e14.trans (e15.trans (e16.trans e17))) _ _ d13))), .tup (n := 118) (fun d hd => ?_) (by show 2 ≤ WL; decide), ?_⟩
      · rcases List.mem_cons.mp hd with rfl | hd
        · exact .str _
        · rw [List.mem_singleton.mp hd]; exact al.up (by decide)
      refine ⟨true, rfl, ?_⟩
      refine XS.x_no rfl ?_
      walk_at "go"
      exact ⟨_, rfl, e14.trans (e15.trans (e16.trans e17))⟩
    · walk_at "go"
      exact ⟨_, rfl, e14⟩
  rintro σ H14 ⟨y9, rfl, e14⟩
  have hS14 := e14.seq hS13
  have h14 := e14 _ _ h13
  clear d13 hS13 h13
  walk_at "go"
  refine ⟨XS.sz (by simp), fun l15 hl15 => ?_⟩
  obtain ⟨e15, h15⟩ := XS.newly (o := HO.lst _) hl15
  generalize hGH15 : upd _ l15 _ = H15 at e15 h15 ⊢
  walk_at "go"
  refine ⟨a, ns, 8, rfl, by decide, e15.seq hS14, ?_⟩
  walk_at "go"
  have v0 := Int.emod_nonneg (cell ns 8 / 8) (by decide : (4 : Int) ≠ 0)
  have v1 := Int.emod_lt_of_pos (cell ns 8 / 8) (by decide : (0 : Int) < 4)
  obtain ⟨tl, htl, htlen⟩ : ∃ tl : Str, atI [V.str "\n", V.str "\t", V.str " ", V.str "\n\n"] (cell ns 8 / 8 % 4) = some (.str tl) ∧ tl.length ≤ 2 := by
    rcases (by omega : cell ns 8 / 8 % 4 = 0 ∨ cell ns 8 / 8 % 4 = 1 ∨ cell ns 8 / 8 % 4 = 2 ∨ cell ns 8 / 8 % 4 = 3) with e | e | e | e <;> rw [e] <;> exact ⟨_, rfl, by decide +kernel⟩
  refine XS.x_ixL (SqL.of h15) htl ?_
  walk_at "go"
  refine ⟨N, rfl, by omega, fun H16 e16 => ?_⟩
  walk_at "go"
  have la := app_len N tl
  have lb := app_len tl N
  refine ⟨_, _, rfl, rfl, Nat.le_trans (by omega : _ ≤ 600002) (by decide), ?_⟩
  walk_at "go"
  refine ⟨_, rfl, by omega, fun H17 e17 => ?_⟩
  refine ⟨true, rfl, ?_⟩
  refine XS.x_no rfl ?_
  walk_at "go"
  refine ⟨_, _, rfl, rfl, Nat.le_trans (by omega : _ ≤ 600002) (by decide), ?_⟩
  walk_at "go"
  refine ⟨_, rfl, by omega, fun H18 e18 => ?_⟩
  refine ⟨true, rfl, ?_⟩
  refine XS.x_no rfl ?_
  walk_at "go"
  have e158 := e15.trans (e16.trans (e17.trans e18))
  have hS18 := e158.seq hS14
  have h18 := e158 _ _ h14
  refine XS.x_forR1 ⟨by decide, by decide⟩ (fun i σ H' => ∃ y5 y10 : Option V, σ = [some (.ref a), some (.ref nl), some (.int most), some (.ref tT'), some (.ref t9), y5, some (.ref lw), some (.str N), some (.str tl), y9, y10, y6, y7, y8] ∧ Same H18 H') ⟨_, _, rfl, Same.refl _⟩ ?_ ?_
  · rintro i σ H' hi ⟨y5, y10, rfl, e19⟩
    walk_at "go"
    refine ⟨a, ns, 1, rfl, by decide, e19.seq hS18, ?_⟩
    walk_at "go"
    have q0 := Int.emod_nonneg ((cell ns 1 / 5 + 1 + (i : Int)) * 48271) (by decide : (2147483647 : Int) ≠ 0)
    generalize (cell ns 1 / 5 + 1 + (i : Int)) * 48271 % 2147483647 = cc at q0 ⊢
    refine ⟨⟨_, rfl⟩, ?_⟩
    walk_at "go"
    refine ⟨lw, wds T, cc, rfl, e19 _ _ h18, hwz, Nat.le_trans GT.wl (by decide), wds_len100 GT, q0, fun t20 ys H20 e20 h20 yl yw => ?_⟩
    have cl := changed_len GT yl yw
    refine ⟨" ", t20, ys, rfl, rfl, .inl (SqL.of h20), ?_, ?_⟩
    · have h2 := sum_le yw
      have h3 : (" " : Str).length = 1 := by decide +kernel
      have h4 := GT.wl
      rw [h3]
      have h5 : ys.length ≤ 9162 := by omega
      have h6 := Nat.mul_le_mul_right 100 h5
      omega
    walk_at "go"
    refine ⟨_, rfl, cl, fun H21 e21 => ?_⟩
    refine ⟨true, rfl, ?_⟩
    refine XS.x_no rfl ?_
    walk_at "go"
    exact ⟨_, _, rfl, e19.trans (e20.trans e21)⟩
  rintro σ H19 ⟨y5, y10, rfl, e19⟩
  walk_at "go"
  exact q _
end

theorem facts {l : PySem.W.OpenLaw} {w : World} {K : PySem.W.Frag} {h : Heap} {mg : Str → Option Value} {fa : Addr} (X : K.In h) (G : h.Ns mainGlobals mg) (hfa : mg "law" = some (.ref fa)) (c : He.SaysT faL fnL tsL w K) (ex : exB K = true)
    : ∃ fd : FuncData, (∀ (s : Shared) (v : Value), BindsTo s fd ⟨[v], []⟩ [("_law_script", v)]) ∧ ∀ base : Heap, K.In base → base.Ns mainGlobals mg → FnOk l.prog w K mg base CX0 123 fa fd ["_law_script"] (sp_law K) := by
  have Z : Bl mg := XH.bl_ok X G (XH.allB_at ex 0 rfl)
  have Z2 : Bl2 mg := XH.bl2_ok X G (XH.allB_at ex 1 rfl)
  have Y := XH.err_ok X G (XH.allB_at ex 2 rfl)
  have Cn := XH.con_ok X G (XH.allB_at ex 3 rfl)
  have I_MOST_WITHIN := He.int_ok X G (x := "MOST_WITHIN") (i := 40) (XH.allB_at ex 4 rfl)
  have I_MOST_FIGURES := He.int_ok X G (x := "MOST_FIGURES") (i := 60) (XH.allB_at ex 5 rfl)
  have I_MOST_LETTERS := He.int_ok X G (x := "MOST_LETTERS") (i := 8) (XH.allB_at ex 6 rfl)
  have I_PIECE := He.int_ok X G (x := "PIECE") (i := 60) (XH.allB_at ex 7 rfl)
  have I_PIECE_END := He.int_ok X G (x := "PIECE_END") (i := (10 ^ 60)) (XH.allB_at ex 8 rfl)
  have Z3 : Bl3 mg := ⟨XH.free_at X G (XH.allB_at ex 9 rfl) 0 rfl, XH.free_at X G (XH.allB_at ex 9 rfl) 1 rfl⟩
  have S_FIGURES := He.str_ok X G (x := "FIGURES") (z := "0123456789") (XH.allB_at ex 10 rfl)
  have S_LETTERS := He.str_ok X G (x := "LETTERS") (z := "abcdefghijklmnopqrstuvwxyz") (XH.allB_at ex 11 rfl)
  have F_written : FunAt K mg "written" s_written P_written := XH.f_at X G c 0 rfl (c.d.fact 0 rfl) (fun _ _ _ _ _ _ us hl => match us, hl with | [_], _ => rfl)
  have F_read : FunAt K mg "read" s_read P_read := XH.f_at X G c 1 rfl (c.d.fact 1 rfl) (fun _ _ _ _ _ _ us hl => match us, hl with | [_], _ => rfl)
  have F__write : FunAt K mg "_write" s__write P__write := XH.f_at X G c 2 rfl (c.d.fact 2 rfl) (fun _ _ _ _ _ _ us hl => match us, hl with | [_, _], _ => rfl)
  have F__write_sum : FunAt K mg "_write_sum" s__write_sum P__write_sum := XH.f_at X G c 3 rfl (c.d.fact 3 rfl) (fun _ _ _ _ _ _ us hl => match us, hl with | [_, _], _ => rfl)
  have F__figures : FunAt K mg "_figures" s__figures P__figures := XH.f_at X G c 4 rfl (c.d.fact 4 rfl) (fun _ _ _ _ _ _ us hl => match us, hl with | [_], _ => rfl)
  have F__read_statement : FunAt K mg "_read_statement" s__read_statement P__read_statement := XH.f_at X G c 5 rfl (c.d.fact 5 rfl) (fun _ _ _ _ _ _ us hl => match us, hl with | [_, _, _], _ => rfl)
  have F__read_parts : FunAt K mg "_read_parts" s__read_parts P__read_parts := XH.f_at X G c 6 rfl (c.d.fact 6 rfl) (fun _ _ _ _ _ _ us hl => match us, hl with | [_, _, _, _], _ => rfl)
  have F__read_sum : FunAt K mg "_read_sum" s__read_sum P__read_sum := XH.f_at X G c 7 rfl (c.d.fact 7 rfl) (fun _ _ _ _ _ _ us hl => match us, hl with | [_, _], _ => rfl)
  have F__word : FunAt K mg "_word" s__word P__word := XH.f_at X G c 8 rfl (c.d.fact 8 rfl) (fun _ _ _ _ _ _ us hl => match us, hl with | [_, _], _ => rfl)
  have F__number : FunAt K mg "_number" s__number P__number := XH.f_at X G c 9 rfl (c.d.fact 9 rfl) (fun _ _ _ _ _ _ us hl => match us, hl with | [_], _ => rfl)
  have F__name : FunAt K mg "_name" s__name P__name := XH.f_at X G c 10 rfl (c.d.fact 10 rfl) (fun _ _ _ _ _ _ us hl => match us, hl with | [_], _ => rfl)
  have F__law_cell_at : FunAt K mg "_law_cell_at" s__law_cell_at P__law_cell_at := XH.f_at X G c 11 rfl (c.d.fact 11 rfl) (fun _ _ _ _ _ _ us hl => match us, hl with | [_, _], _ => rfl)
  have F__law_whole : FunAt K mg "_law_whole" s__law_whole P__law_whole := XH.f_at X G c 12 rfl (c.d.fact 12 rfl) (fun _ _ _ _ _ _ us hl => match us, hl with | [_], _ => rfl)
  have F__law_names_by : FunAt K mg "_law_names_by" s__law_names_by P__law_names_by := XH.f_at X G c 13 rfl (c.d.fact 13 rfl) (fun _ _ _ _ _ _ us hl => match us, hl with | [_], _ => rfl)
  have F__law_sum_by : FunAt K mg "_law_sum_by" s__law_sum_by P__law_sum_by := XH.f_at X G c 14 rfl (c.d.fact 14 rfl) (fun _ _ _ _ _ _ us hl => match us, hl with | [_, _, _], _ => rfl)
  have F__law_end_by : FunAt K mg "_law_end_by" s__law_end_by P__law_end_by := XH.f_at X G c 15 rfl (c.d.fact 15 rfl) (fun _ _ _ _ _ _ us hl => match us, hl with | [_, _, _, _], _ => rfl)
  have F__law_plain_by : FunAt K mg "_law_plain_by" s__law_plain_by P__law_plain_by := XH.f_at X G c 16 rfl (c.d.fact 16 rfl) (fun _ _ _ _ _ _ us hl => match us, hl with | [_, _, _, _, _, _], _ => rfl)
  have F__law_word_of : FunAt K mg "_law_word_of" s__law_word_of P__law_word_of := XH.f_at X G c 17 rfl (c.d.fact 17 rfl) (fun _ _ _ _ _ _ us hl => match us, hl with | [_], _ => rfl)
  have F__law_big_by : FunAt K mg "_law_big_by" s__law_big_by P__law_big_by := XH.f_at X G c 18 rfl (c.d.fact 18 rfl) (fun _ _ _ _ _ _ us hl => match us, hl with | [_], _ => rfl)
  have F__law_alike : FunAt K mg "_law_alike" s__law_alike P__law_alike := XH.f_at X G c 19 rfl (c.d.fact 19 rfl) (fun _ _ _ _ _ _ us hl => match us, hl with | [_, _], _ => rfl)
  have F__law_bound_by : FunAt K mg "_law_bound_by" s__law_bound_by P__law_bound_by := XH.f_at X G c 20 rfl (c.d.fact 20 rfl) (fun _ _ _ _ _ _ us hl => match us, hl with | [_, _, _], _ => rfl)
  have F__law_sum_words : FunAt K mg "_law_sum_words" s__law_sum_words P__law_sum_words := XH.f_at X G c 21 rfl (c.d.fact 21 rfl) (fun _ _ _ _ _ _ us hl => match us, hl with | [_], _ => rfl)
  have F__law_words : FunAt K mg "_law_words" s__law_words P__law_words := XH.f_at X G c 22 rfl (c.d.fact 22 rfl) (fun _ _ _ _ _ _ us hl => match us, hl with | [_], _ => rfl)
  have F__law_within : FunAt K mg "_law_within" s__law_within P__law_within := XH.f_at X G c 23 rfl (c.d.fact 23 rfl) (fun _ _ _ _ _ _ us hl => match us, hl with | [_], _ => rfl)
  have F__law_number : FunAt K mg "_law_number" s__law_number P__law_number := XH.f_at X G c 24 rfl (c.d.fact 24 rfl) (fun _ _ _ _ _ _ us hl => match us, hl with | [_], _ => rfl)
  have F__law_is_name : FunAt K mg "_law_is_name" s__law_is_name P__law_is_name := XH.f_at X G c 25 rfl (c.d.fact 25 rfl) (fun _ _ _ _ _ _ us hl => match us, hl with | [_], _ => rfl)
  have F__law_sum_along : FunAt K mg "_law_sum_along" s__law_sum_along P__law_sum_along := XH.f_at X G c 26 rfl (c.d.fact 26 rfl) (fun _ _ _ _ _ _ us hl => match us, hl with | [_], _ => rfl)
  have F__law_parts_along : FunAt K mg "_law_parts_along" s__law_parts_along P__law_parts_along := XH.f_at X G c 27 rfl (c.d.fact 27 rfl) (fun _ _ _ _ _ _ us hl => match us, hl with | [_, _], _ => rfl)
  have F__law_along : FunAt K mg "_law_along" s__law_along P__law_along := XH.f_at X G c 28 rfl (c.d.fact 28 rfl) (fun _ _ _ _ _ _ us hl => match us, hl with | [_, _], _ => rfl)
  have F__law_changed : FunAt K mg "_law_changed" s__law_changed P__law_changed := XH.f_at X G c 29 rfl (c.d.fact 29 rfl) (fun _ _ _ _ _ _ us hl => match us, hl with | [_, _], _ => rfl)
  have F__law_read : FunAt K mg "_law_read" s__law_read P__law_read := XH.f_at X G c 30 rfl (c.d.fact 30 rfl) (fun _ _ _ _ _ _ us hl => match us, hl with | [_], _ => rfl)
  have F__law_is_due : FunAt K mg "_law_is_due" s__law_is_due P__law_is_due := XH.f_at X G c 31 rfl (c.d.fact 31 rfl) (fun _ _ _ _ _ _ us hl => match us, hl with | [_], _ => rfl)
  obtain ⟨fd, F_law, hb⟩ := XH.law_at (st := s_law) (p := "_law_script") X G c 32 rfl (c.d.fact 32 rfl) hfa (fun _ _ _ _ _ _ us hl => match us, hl with | [_], _ => rfl)
  refine ⟨fd, hb, fun base _ _ => ?_⟩
  have C : Cw mg := ⟨I_MOST_WITHIN, I_MOST_FIGURES, I_MOST_LETTERS, I_PIECE, I_PIECE_END, S_FIGURES, S_LETTERS⟩
  have D_cell := d__law_cell_at (P := l.prog) (w := w) (base := base) F__law_cell_at Z
  have D_whole := d__law_whole (P := l.prog) (w := w) (base := base) F__law_whole Z
  have D_word := d__word (P := l.prog) (w := w) (base := base) Y F__word Z
  have D_number := d__number (P := l.prog) (w := w) (base := base) Y C F__number Z
  have D_name := d__name (P := l.prog) (w := w) (base := base) Y C F__name Z
  have D_rsum := d__read_sum Y F__read_sum Z D_word D_number D_name
  have D_rst := rst_all Y Cn C F__read_statement F__read_parts Z D_word D_number D_name D_rsum 40
  have D_read := d_read Y F_read Z D_rst
  have D_figs := d__figures (P := l.prog) (w := w) (base := base) C F__figures Z Z2 Z3
  have D_wsum := d__write_sum F__write_sum Z D_figs
  have D_written := d_written F_written Z (write_all Cn F__write Z D_figs D_wsum 40)
  have D_lwords := lwords_all F__law_words Z (d__law_sum_words (P := l.prog) (w := w) (base := base) F__law_sum_words Z) 41
  have D_lwithin := lwithin_all (P := l.prog) (w := w) (base := base) F__law_within Z Z2 41
  have D_lnum := d__law_number (P := l.prog) (w := w) (base := base) F__law_number Z
  have D_lname := d__law_is_name (P := l.prog) (w := w) (base := base) F__law_is_name Z
  have D_along := lal_all F__law_along F__law_parts_along Z D_lnum D_lname (d__law_sum_along F__law_sum_along Z D_lnum D_lname) 40
  have D_alike := alike_all F__law_alike Z D_whole 120
  have D_lread := d__law_read Y F__law_read Z D_read (d__law_word_of (P := l.prog) (w := w) (base := base) Y F__law_word_of Z)
  have D_due := d__law_is_due F__law_is_due Z D_along D_lread D_alike
  exact d_law Y C F_law Z D_cell (d__law_names_by F__law_names_by Z) (d__law_plain_by F__law_plain_by Z D_cell (d__law_end_by F__law_end_by Z (d__law_sum_by F__law_sum_by Z))) (d__law_big_by F__law_big_by Z) (d__law_bound_by F__law_bound_by Z) D_lwithin D_lwords D_written D_lread D_alike D_due (d__law_changed F__law_changed Z Z2)
end R1
open PySem PySem.W PySem.Calls PyProof.Rows
set_option maxRecDepth 100000 in
set_option maxHeartbeats 0 in
theorem PySem.Challenge.cw_somenumber_k10_notes_holds : PySem.Challenge.rw_somenumber_k10_notes.Holds := by
  w_on; o_law
  refine HandSHeadRun.head_any (r := (OpenLaw.row PySem.Challenge.rw_somenumber_k10_notes)) (q := view (OpenLaw.row PySem.Challenge.rw_somenumber_k10_notes).prog [48]) (H := R1.hk) (ob := R1.ob) (M := 6000) (loose := R1.loL) (d := HandSHeadRun.topDef (OpenLaw.row PySem.Challenge.rw_somenumber_k10_notes).prog 48) (kwd := []) R1.ob_eq (by kernel_rfl) (fun s => by kernel_rfl) R1.runF
    (by kernel_rfl) (by kernel_rfl) (by kernel_rfl) (by rfl) (by first | assumption | decide +kernel) (by decide +kernel) ⟨rfl, rfl, rfl, rfl, rfl, by decide +kernel⟩ ?hw ?hc
  case hw => w_witness2
  case hc =>
    refine L2.walk_ofE (l := PySem.Challenge.rw_somenumber_k10_notes) (n := 63) (k := 123) (x := "_law_script") (CX := L2.CX0) rfl (by decide) (by kernel_rfl) ⟨rfl, by decide, by decide⟩ ?F (fun _ _ _ _ z => z)
    intro w mg fa h Y G hmg0
    obtain ⟨K, KX, c, ex⟩ := Y
    have hmg : mg ("law" : PySem.Str) = some (.ref fa) := by
      have e : (HandSHeadRun.topDef (OpenLaw.row PySem.Challenge.rw_somenumber_k10_notes).prog 48).name = ("law" : PySem.Str) := by kernel_rfl
      rw [← e]
      exact hmg0
    obtain ⟨fd, hb, hF⟩ := R1.facts (l := PySem.Challenge.rw_somenumber_k10_notes) (w := w) KX G hmg c ex
    exact ⟨K, fd, XS.sp_law K, KX, hb, fun H a ns hl _ hS => ⟨a, ns, rfl, hS, hl, fun _ => rfl⟩, hF⟩
#print axioms PySem.Challenge.cw_somenumber_k10_notes_holds

