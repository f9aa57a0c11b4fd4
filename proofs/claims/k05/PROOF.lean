import PyProof.Rows.All
import Wide.All
import OpenK.AllK
import Wide.FinOn
import HandS.ForMost
import HandS.IsInst
import HandS.More
import HandS.Star
import HandS.TupAny
import HandS.TupMul
import HandS.Style
import HandS.Wide
import PyProof.StrOps2
import PyProof.Rows.StrMeet
import HandS.Evl
import KE.DataEq
import HandS.ForExc
import HandS.ExcIs
import HandS.HotCalls
import HandS.FStr
import HandS.Small
import HandS.DictComp
import HandS.SetFor
import PySem.Challenge.RW_somenumber_k05_put_into
set_option Elab.async false
set_option linter.all false
set_option maxRecDepth 100000
set_option maxHeartbeats 4000000
namespace XS
open PySem PySem.Spec PyProof.Rows L2

/-! ### defs by their names -/
/-- the def named nm stands in the module's names -/
def FunAt (K : PySem.W.Frag) (mg : Str → Option Value) (nm : Str) (st : Stmt) (ps : List Str) : Prop :=
  ∃ f fd, Fun K nm nm st f fd ∧ mg nm = some (.ref f) ∧ Binds K fd ps []
/-- the def named nm keeps the promise sp -/
def DefAt (P : Program) (w : World) (K : PySem.W.Frag) (mg : Str → Option Value) (base : Heap) (CX : CXT) (k : Nat) (nm : Str) (ps : List Str) (sp : Sp) : Prop :=
  ∃ f fd, FnOk P w K mg base CX k f fd ps sp ∧ mg nm = some (.ref f) ∧ PySem.W.keepIn K (.ref f) = true ∧ Binds K fd ps []
section
variable {P : Program} {w : World} {K : PySem.W.Frag} {mg : Str → Option Value} {base : Heap} {nm : Str} {st : Stmt} {ps N : List Str} {sp sp' : Sp} {k j : Nat} {CXX : CXT}
theorem DefAt.mono (D : DefAt P w K mg base CXX j nm ps sp) (h : j ≤ k) : DefAt P w K mg base CXX k nm ps sp := by
  obtain ⟨f, fd, F, a, b, c⟩ := D
  exact ⟨f, fd, F.mono h, a, b, c⟩
theorem DefAt.imp (D : DefAt P w K mg base CXX k nm ps sp) (h : ∀ vs H Q E, sp' vs H Q E → sp vs H Q E) : DefAt P w K mg base CXX k nm ps sp' := by
  obtain ⟨f, fd, F, a, b, c⟩ := D
  exact ⟨f, fd, F.imp h, a, b, c⟩
/-- a promise by the body's reading, where nothing is raised -/
theorem FunAt.ok (F : FunAt K mg nm st ps) (S : FnScope N ps (defScope st)) (len : ∀ vs H Q E, sp vs H Q E → vs.length = ps.length)
    (hbody : ∀ (f : Addr) (cdv : Value) (A : Around) (outer : List Env) (s : Shared) (H : Hp) (vs : List V) (Q : VK) (E : XK), Room k (A.deeper (envOfC nm (defScope st) s.heap.objs.size f cdv)) → sp vs H Q E →
      ∃ t, PSs (cxOf CX0 P w K mg base N nm (defScope st) f cdv A outer s H E).nox (defBody st) t ∧ t { nx := fun _ H' => Q .non H', rt := Q } (start N vs) H) : DefAt P w K mg base CX0 (k + 1) nm ps sp := by
  obtain ⟨f, fd, F, a, b⟩ := F
  exact ⟨f, fd, F.ok S len (hbody f), a, F.kp, b⟩
/-- a promise that nobody can ask -/
theorem FunAt.never (F : FunAt K mg nm st ps) (no : ∀ vs H Q E, ¬ sp vs H Q E) : DefAt P w K mg base CXX k nm ps sp := by
  obtain ⟨f, fd, F, a, b⟩ := F
  exact ⟨f, fd, ⟨fun vs H Q E h => absurd h (no vs H Q E), fun A outer s H args us vs Q E _ _ _ _ h => absurd h (no vs H Q E)⟩, a, F.kp, b⟩
end
section
variable {X : Cx} {CXX : CXT} {k : Nat} {ps : List Str} {sp : Sp} {E : XK} {x : Str} {e : Expr} {es : List Expr} {t : TA} {p pos : Pos}
theorem pe_callD (D : DefAt X.prog X.w X.K X.mg X.base CXX k x ps sp) (hr : Room k X.A) (hg : Gl X x) (hx : Passes CXX X E) (ha : PA X (e :: es) t) (hdb : (x == ("__debug__" : Str)) = false := by decide)
    (he : starEach (e :: es) X.env = (false, eval e X.env) :: starEach es X.env := by rfl) (hpl : (backTo pos (starEach es X.env)).any (·.1) = false := by rfl) : PE X (.Call (.Name x p) (e :: es) [] pos) (tCall sp [] E t) := by
  obtain ⟨f, fd, F, a, b, c⟩ := D
  exact pe_call F hr hg a b c .nil hx ha hdb he hpl
end

/-! ### text times number -/
def repS (x : Str) (n : Nat) : Str := ⟨(List.replicate n x.cps.toList).flatten.toArray⟩
theorem repS_len (x : Str) (n : Nat) : (repS x n).length = n * x.length := by
  show (List.replicate n x.cps.toList).flatten.toArray.size = n * x.cps.size
  simp
theorem foldl_cps (c : Array Nat) : ∀ (m : Nat) (acc : Array Nat), (List.replicate m c).foldl (· ++ ·) acc = acc ++ (List.replicate m c.toList).flatten.toArray
  | 0, acc => by simp
  | m + 1, acc => by
    rw [List.replicate_succ, List.foldl_cons, foldl_cps c m, List.replicate_succ, List.flatten_cons]
    apply Array.ext'
    simp
def rRepS : R2 := fun x y H Q => ∃ z k, x = .str z ∧ y = .int k ∧ 1 ≤ k ∧ k ≤ 1000 ∧ z.length ≤ 1000 ∧ Q (.str (repS z k.toNat)) H
theorem op_repS {X : Cx} : OpR X (binaryOp .Mult) rRepS := by
  intro pins s σ H x y v u Q I rx ry h
  obtain ⟨z, k, rfl, rfl, h1, h2, hz, q⟩ := h
  obtain ⟨t, rfl⟩ := rx
  obtain ⟨t2, rfl⟩ := ry
  refine PySem.P.mul_str (by simp; omega) (fun _ _ => ?_) (fun _ _ => ?_) ?_
  · have h3 : (z.length : Int) * k ≤ 1000 * 1000 := Int.mul_le_mul (by omega) h2 (by omega) (by omega)
    have h4 : (z.length : Int) ≤ (2 ^ 63 - 1) / k := Int.le_ediv_of_mul_le (by omega) (by omega)
    have h5 : ((2 : Int) ^ 63 - 1) / k = (2 ^ 63 - 1) / k := rfl
    omega
  · have h3 : z.length * k.toNat ≤ 1000 * 1000 := Nat.mul_le_mul hz (by omega)
    unfold PySem.Builtin.Str.tooLong
    simp
    have : sizeLine = 16777216 := sizeLine_eq
    omega
  · rw [if_neg (by omega)]
    by_cases hb : (k == 1 || z.length == 0) = true
    · rw [if_pos hb]
      have e : repS z k.toNat = z := by
        unfold repS
        simp only [Bool.or_eq_true, beq_iff_eq] at hb
        rcases hb with hb | hb
        · subst hb
          simp
        · have h0 : z.cps.toList = [] := by
            have : z.cps.size = 0 := hb
            simp at this
            simp [this]
          rw [h0]
          have : (List.replicate k.toNat ([] : List Nat)).flatten = [] := by simp
          rw [this]
          have h1 : z.cps = #[] := by
            have : z.cps.size = 0 := hb
            simpa using this
          cases z
          simp at h1
          subst h1
          rfl
      rw [e] at q
      exact ⟨.str z, H, I, ⟨_, rfl⟩, q⟩
    · rw [if_neg hb]
      have e : (⟨(List.replicate k.toNat z.cps).foldl (· ++ ·) #[]⟩ : Str) = repS z k.toNat := by
        unfold repS
        rw [foldl_cps]
        simp
      rw [e]
      refine ⟨?_, .str (repS z k.toNat), H, I.tok _, ⟨_, rfl⟩, q⟩
      have h3 : z.length * k.toNat ≤ 1000 * 1000 := Nat.mul_le_mul hz (by omega)
      rw [repS_len, sizeLine_eq, Nat.mul_comm]
      omega
end XS

namespace XS
open PySem PySem.Spec PyProof.Rows L2
section
variable {K : PySem.W.Frag} {σ : L2.St} {H : Hp} {ta tb te tx : TE} {t u w : TS} {c c2 : TT} {x y z v : V} {r : R2} {Q : VK} {D : Ends} {g : TG}
/-! ### one step of a reading -/
theorem beq_dec {α : Type} [DecidableEq α] (i j : α) : (i == j) = decide (i = j) := by rw [Bool.eq_iff_iff]; simp
theorem x_sAsg (h : te σ H fun x H1 => g x σ H1 (u D)) : tSeq (tAsg te g) u D σ H := h
theorem x_sIf (h : c σ H fun b H1 => if b = true then t { D with nx := u D } σ H1 else w { D with nx := u D } σ H1) : tSeq (tIfS c t w) u D σ H := h
theorem x_sDrop (h : te σ H fun _ H1 => u D σ H1) : tSeq (tDrop te) u D σ H := h
theorem x_sNext (h : u D σ H) : tSeq tNext u D σ H := h
theorem x_sSeq (h : tSeq t (tSeq w u) D σ H) : tSeq (tSeq t w) u D σ H := h
theorem x_sAny (h : t { D with nx := u D } σ H) : tSeq t u D σ H := h
theorem x_asg (h : te σ H fun x H1 => g x σ H1 D.nx) : tAsg te g D σ H := h
theorem x_if (h : c σ H fun b H1 => if b = true then t D σ H1 else w D σ H1) : tIfS c t w D σ H := h
theorem x_drop (h : te σ H fun _ H1 => D.nx σ H1) : tDrop te D σ H := h
theorem x_ret (h : te σ H D.rt) : tRet te D σ H := h
theorem x_next (h : D.nx σ H) : tNext D σ H := h
theorem x_cont (h : D.ct σ H) : tCont D σ H := h
theorem x_nx {f : L2.St → Hp → Prop} {a b d} (h : f σ H) : Ends.nx ⟨f, a, b, d⟩ σ H := h
theorem x_ct {f : L2.St → Hp → Prop} {a b d} (h : f σ H) : Ends.ct ⟨a, b, d, f⟩ σ H := h
theorem x_rt {f : VK} {a b d} (h : f v H) : Ends.rt ⟨a, f, b, d⟩ v H := h
theorem x_bk {f : L2.St → Hp → Prop} {a b d} (h : f σ H) : Ends.bk ⟨a, b, f, d⟩ σ H := h
theorem x_gname {i : Nat} {k : L2.St → Hp → Prop} (h : k (σ.set i (some v)) H) : gName i v σ H k := h
theorem x_var {i : Nat} (e : σ[i]? = some (some v)) (h : Q v H) : tVar i σ H Q := ⟨v, e, h⟩
theorem x_c (h : Q v H) : tC v σ H Q := h
theorem x_op (h : ta σ H fun x H1 => tb σ H1 fun y H2 => r x y H2 Q) : tOp r ta tb σ H Q := h
theorem x_un {r : V → Hp → VK → Prop} (h : ta σ H fun x H1 => r x H1 Q) : tUn r ta σ H Q := h
theorem x_I0 {f : Int → Int → V} {i j : Int} (h : Q (f i j) H) : rI0 f (.int i) (.int j) H Q := ⟨i, j, rfl, rfl, h⟩
theorem x_I {C : Int → Int → Prop} {f : Int → Int → V} {i j : Int} (hc : C i j) (h : Q (f i j) H) : rI C f (.int i) (.int j) H Q := ⟨i, j, rfl, rfl, hc, h⟩
theorem x_U {f : Int → V} {i : Int} (h : Q (f i) H) : rU f (.int i) H Q := ⟨i, rfl, h⟩
theorem x_eqI {i j : Int} (h : Q (.bl (decide (i = j))) H) : rEq (.int i) (.int j) H Q := ⟨rfl, by rw [dec_int, beq_dec]; exact h⟩
theorem x_neI {i j : Int} (h : Q (.bl (!decide (i = j))) H) : rNe (.int i) (.int j) H Q := ⟨rfl, by rw [dec_int, beq_dec]; exact h⟩
theorem x_eqS {i j : Str} (h : Q (.bl (decide (i = j))) H) : rEq (.str i) (.str j) H Q := ⟨rfl, by rw [dec_str, beq_dec]; exact h⟩
theorem x_neS {i j : Str} (h : Q (.bl (!decide (i = j))) H) : rNe (.str i) (.str j) H Q := ⟨rfl, by rw [dec_str, beq_dec]; exact h⟩
theorem x_eqB {i j : Bool} (h : Q (.bl (decide (i = j))) H) : rEq (.bl i) (.bl j) H Q := ⟨rfl, by rw [dec_bl, beq_dec]; exact h⟩
theorem x_neB {i j : Bool} (h : Q (.bl (!decide (i = j))) H) : rNe (.bl i) (.bl j) H Q := ⟨rfl, by rw [dec_bl, beq_dec]; exact h⟩
theorem x_test {k : Bool → Hp → Prop} (h : te σ H fun x H' => ∃ b, x = .bl b ∧ k b H') : tTest te σ H k := h
theorem x_B {k : Bool → Hp → Prop} (h : te σ H fun x H' => ∃ b, x = .bl b ∧ k b H') : tB te σ H k := h
theorem x_k {b : Bool} {k : Bool → Hp → Prop} (h : k b H) : ∃ b', V.bl b = V.bl b' ∧ k b' H := ⟨b, rfl, h⟩
theorem x_and {k : Bool → Hp → Prop} (h : c σ H fun b H1 => if b = true then c2 σ H1 k else k false H1) : tAnd c c2 σ H k := h
theorem x_or {k : Bool → Hp → Prop} (h : c σ H fun b H1 => if b = true then k true H1 else c2 σ H1 k) : tOr c c2 σ H k := h
theorem x_not {k : Bool → Hp → Prop} (h : c σ H fun b H1 => k (!b) H1) : tNot c σ H k := h
theorem x_andV (h : ta σ H fun x H1 => ∃ b, x = .bl b ∧ if b = true then tb σ H1 Q else Q (.bl false) H1) : tAndV ta tb σ H Q := h
theorem x_orV (h : ta σ H fun x H1 => ∃ b, x = .bl b ∧ if b = true then Q (.bl true) H1 else tb σ H1 Q) : tOrV ta tb σ H Q := h
theorem x_notV (h : ta σ H fun x H1 => ∃ b, x = .bl b ∧ Q (.bl (!b)) H1) : tNotV ta σ H Q := h
theorem x_ifE (h : c σ H fun b H1 => if b = true then ta σ H1 Q else tb σ H1 Q) : tIf c ta tb σ H Q := h
theorem x_k2 {b : Bool} {P : Bool → Prop} (h : P b) : ∃ b', V.bl b = V.bl b' ∧ P b' := ⟨b, rfl, h⟩
theorem x_call {sp : Sp} {dvs : List V} {E : XK} {a : TA} (h : a σ H fun vs H1 => sp (vs ++ dvs) H1 Q E) : tCall sp dvs E a σ H Q := h
theorem x_cb {r : List V → Hp → VK → Prop} {a : TA} (h : a σ H fun vs H1 => r vs H1 Q) : tCB r a σ H Q := h
theorem x_nil {k : List V → Hp → Prop} (h : k [] H) : tNil σ H k := h
theorem x_cons {a : TA} {k : List V → Hp → Prop} (h : ta σ H fun x H1 => a σ H1 fun xs H2 => k (x :: xs) H2) : tCons ta a σ H k := h
theorem x_tup {a : TA} (h : a σ H fun xs H1 => xs.length ≤ sizeLine ∧ ∀ p, H1 p = none → Q (.ref p) (upd H1 p (.tup xs))) : tTup a σ H Q := h
theorem x_lst {a : TA} (h : a σ H fun xs H1 => xs.length ≤ sizeLine ∧ ∀ p, H1 p = none → Q (.ref p) (upd H1 p (.lst xs))) : tLst a σ H Q := h
theorem x_sl {r : V → Option Int → Option Int → Hp → VK → Prop} {tl th : TO} (h : te σ H fun x H1 => tl σ H1 fun l H2 => th σ H2 fun u H3 => r x l u H3 Q) : tSl r te tl th σ H Q := h
theorem x_nopart {k : Option Int → Hp → Prop} (h : k none H) : tNoPart σ H k := h
theorem x_part {k : Option Int → Hp → Prop} (h : te σ H fun x H1 => ∃ i, x = .int i ∧ k (some i) H1) : tPart te σ H k := h
theorem x_ki {i : Int} {P : Int → Prop} (h : P i) : ∃ i', V.int i = V.int i' ∧ P i' := ⟨i, rfl, h⟩
theorem x_bm {T : String} {r : V → List V → Hp → VK → Prop} {a : TA} (h : te σ H fun x H1 => tyV K T x H1 ∧ a σ H1 fun xs H2 => r x xs H2 Q) : tBM K T r te a σ H Q := h
theorem x_bm0 {T : String} {r : V → List V → Hp → VK → Prop} (h : te σ H fun x H1 => tyV K T x H1 ∧ r x [] H1 Q) : tBM0 K T r te σ H Q := h
theorem x_ixL {p : Addr} {xs : List V} {i : Int} (hx : SqL K H p xs) (ha : atI xs i = some v) (h : Q v H) : rIxL K (.ref p) (.int i) H Q := ⟨p, xs, i, v, rfl, rfl, hx, ha, h⟩
theorem x_ixT {p : Addr} {xs : List V} {i : Int} (hx : SqT K H p xs) (ha : atI xs i = some v) (h : Q v H) : rIxT K (.ref p) (.int i) H Q := ⟨p, xs, i, v, rfl, rfl, hx, ha, h⟩
theorem x_ixS {z : Str} {i : Int} {cc : Nat} (hz : z.length ≤ sizeLine) (ha : atI z.cps.toList i = some cc) (h : Q (.str ⟨#[cc]⟩) H) : rIxS (.str z) (.int i) H Q := ⟨z, i, cc, rfl, rfl, hz, ha, h⟩
theorem x_tyL {p : Addr} {xs : List V} (h : H p = some (.lst xs)) : tyV K "list" (.ref p) H := Or.inl ⟨rfl, _, Or.inl (Or.inl h)⟩
theorem x_tyL' {A : Prop} {p : Addr} (h1 : tyV K "list" (.ref p) H) (h : A) : tyV K "list" (.ref p) H ∧ A := ⟨h1, h⟩
theorem x_app {p : Addr} {xs : List V} (h1 : H p = some (.lst xs)) (hz : xs.length < sizeLine) (h : Q .non (upd H p (.lst (xs ++ [v])))) : rAppend (.ref p) [v] H Q := ⟨p, xs, v, rfl, rfl, h1, hz, h⟩
theorem x_T {A B : Prop} (h : A) : if true = true then A else B := by rw [if_pos rfl]; exact h
theorem x_F {A B : Prop} (h : B) : if false = true then A else B := by rw [if_neg Bool.false_ne_true]; exact h
theorem x_Tn {A B : Prop} (h : A) : if (!false) = true then A else B := x_T h
theorem x_Fn {A B : Prop} (h : B) : if (!true) = true then A else B := x_F h
theorem x_2 {b : Bool} {A B : Prop} (h1 : b = true → A) (h2 : b = false → B) : if b = true then A else B := by
  cases b with
  | true => exact x_T (h1 rfl)
  | false => exact x_F (h2 rfl)
theorem x_d {p : Prop} [Decidable p] {A B : Prop} (h1 : p → A) (h2 : ¬ p → B) : if decide p = true then A else B := by
  by_cases h : p
  · rw [decide_eq_true h]; exact x_T (h1 h)
  · rw [decide_eq_false h]; exact x_F (h2 h)
theorem x_dn {p : Prop} [Decidable p] {A B : Prop} (h1 : ¬ p → A) (h2 : p → B) : if (!decide p) = true then A else B := by
  by_cases h : p
  · rw [decide_eq_true h]; exact x_F (h2 h)
  · rw [decide_eq_false h]; exact x_T (h1 h)
/-- a known test -/
theorem x_yes {b : Bool} {A B : Prop} (hb : b = true) (h : A) : if b = true then A else B := by rw [if_pos hb]; exact h
theorem x_no {b : Bool} {A B : Prop} (hb : b = false) (h : B) : if b = true then A else B := by rw [if_neg (by rw [hb]; exact Bool.false_ne_true)]; exact h
/-- a new object: what stood stands -/
theorem same_upd {H : Hp} {p : Addr} {o : HO} (h : H p = none) : Same H (upd H p o) := fun b x e => by
  rw [upd_ne (ne_of_none e h)]
  exact e
theorem x_new {p : Addr} {o : HO} {P : Hp → Prop} (hp : H p = none) (h : ∀ H1, Same H H1 → H1 p = some o → P H1) : P (upd H p o) := h _ (same_upd hp) upd_same
theorem newly {H : Hp} {p : Addr} {o : HO} (hp : H p = none) : Same H (upd H p o) ∧ upd H p o p = some o := ⟨same_upd hp, upd_same⟩
theorem same_mut {H H' : Hp} {p : Addr} {o : HO} (e : Same H H') (h : H p = none) : Same H (upd H' p o) := fun b x q => by
  rw [upd_ne (ne_of_none q h)]
  exact e b x q
/-- a new tuple, list: told by what holds behind -/
theorem x_newT {xs : List V} {Q : VK} (hz : xs.length ≤ sizeLine) (h : ∀ p H1, H p = none → Same H H1 → H1 p = some (.tup xs) → Q (.ref p) H1) : xs.length ≤ sizeLine ∧ ∀ p, H p = none → Q (.ref p) (upd H p (.tup xs)) :=
  ⟨hz, fun p hp => h p _ hp (same_upd hp) upd_same⟩
theorem x_newL {xs : List V} {Q : VK} (hz : xs.length ≤ sizeLine) (h : ∀ p H1, H p = none → Same H H1 → H1 p = some (.lst xs) → Q (.ref p) H1) : xs.length ≤ sizeLine ∧ ∀ p, H p = none → Q (.ref p) (upd H p (.lst xs)) :=
  ⟨hz, fun p hp => h p _ hp (same_upd hp) upd_same⟩
end
/-! ### for -/
def ForJ (J : It) (g : TG) (t : TS) : TS := tFor (fun _ H' R => R J H') g t
section
variable {K : PySem.W.Frag} {σ : L2.St} {H : Hp} {tl : TE} {t u : TS} {D : Ends} {g : TG}
theorem x_for {wi : TI} (h : wi σ H fun J H1 => ForJ J g t D σ H1) : tFor wi g t D σ H := h
theorem x_sFor {wi : TI} (h : wi σ H fun J H1 => ForJ J g t { D with nx := u D } σ H1) : tSeq (tFor wi g t) u D σ H := h
theorem x_iL {R : It → Hp → Prop} (h : tl σ H fun x H1 => ∃ a, x = .ref a ∧ (∃ xs, SqL K H1 a xs) ∧ R (Itl K a) H1) : iList K tl σ H R := h
theorem x_iT {R : It → Hp → Prop} (h : tl σ H fun x H1 => ∃ a, x = .ref a ∧ (∃ xs, SqT K H1 a xs) ∧ R (Itt K a) H1) : iTup K tl σ H R := h
theorem x_iR1 {a : TA} {R : It → Hp → Prop} (h : a σ H fun vs H1 => ∃ j : Int, vs = [.int j] ∧ -(2 ^ 62) ≤ j ∧ j < 2 ^ 62 ∧ R (Itr 0 j.toNat) H1) : iRng1 a σ H R := h
theorem x_iR2 {a : TA} {R : It → Hp → Prop} (h : a σ H fun vs H1 => ∃ i j : Int, vs = [.int i, .int j] ∧ (-(2 ^ 62) ≤ i ∧ i < 2 ^ 62 ∧ -(2 ^ 62) ≤ j ∧ j < 2 ^ 62) ∧ R (Itr i (j - i).toNat) H1) : iRng2 a σ H R := h
theorem x_forL {p : Addr} {xs : List V} (hx : SqL K H p xs) (Pv : Nat → L2.St → Hp → Prop) (h0 : Pv 0 σ H) (hl : ∀ i σ' H', i ≤ xs.length → Pv i σ' H' → SqL K H' p xs)
    (hs : ∀ i x σ' H', xs[i]? = some x → Pv i σ' H' → g x σ' H' fun σ2 H2 => t { D with nx := Pv (i + 1), ct := Pv (i + 1), bk := D.nx } σ2 H2) (hd : ∀ σ' H', Pv xs.length σ' H' → D.nx σ' H') :
    ∃ a, V.ref p = .ref a ∧ (∃ xs, SqL K H a xs) ∧ ForJ (Itl K a) g t D σ H := ⟨p, rfl, ⟨xs, hx⟩, for_list (K := K) (a := p) (xs := xs) Pv h0 hl hs hd⟩
theorem x_forT {p : Addr} {xs : List V} (hx : SqT K H p xs) (Pv : Nat → L2.St → Hp → Prop) (h0 : Pv 0 σ H) (hl : ∀ i σ' H', i ≤ xs.length → Pv i σ' H' → SqT K H' p xs)
    (hs : ∀ i x σ' H', xs[i]? = some x → Pv i σ' H' → g x σ' H' fun σ2 H2 => t { D with nx := Pv (i + 1), ct := Pv (i + 1), bk := D.nx } σ2 H2) (hd : ∀ σ' H', Pv xs.length σ' H' → D.nx σ' H') :
    ∃ a, V.ref p = .ref a ∧ (∃ xs, SqT K H a xs) ∧ ForJ (Itt K a) g t D σ H := ⟨p, rfl, ⟨xs, hx⟩, for_tup (K := K) (a := p) (xs := xs) Pv h0 hl hs hd⟩
theorem x_forR1 {n : Int} (hb : -(2 ^ 62) ≤ n ∧ n < 2 ^ 62) (Pv : Nat → L2.St → Hp → Prop) (h0 : Pv 0 σ H)
    (hs : ∀ (i : Nat) σ' H', (i : Int) < n → Pv i σ' H' → g (.int (i : Int)) σ' H' fun σ2 H2 => t { D with nx := Pv (i + 1), ct := Pv (i + 1), bk := D.nx } σ2 H2) (hd : ∀ σ' H', Pv n.toNat σ' H' → D.nx σ' H') :
    ∃ j : Int, [V.int n] = [.int j] ∧ -(2 ^ 62) ≤ j ∧ j < 2 ^ 62 ∧ ForJ (Itr 0 j.toNat) g t D σ H :=
  ⟨n, rfl, hb.1, hb.2, for_range (lo := 0) (n := n.toNat) Pv h0 (fun i σ' H' hi q => by rw [Int.zero_add]; exact hs i σ' H' (by omega) q) hd⟩
theorem x_forR2 {lo n : Int} (hb : -(2 ^ 62) ≤ lo ∧ lo < 2 ^ 62 ∧ -(2 ^ 62) ≤ n ∧ n < 2 ^ 62) (Pv : Nat → L2.St → Hp → Prop) (h0 : Pv 0 σ H)
    (hs : ∀ (i : Nat) σ' H', lo + (i : Int) < n → Pv i σ' H' → g (.int (lo + (i : Int))) σ' H' fun σ2 H2 => t { D with nx := Pv (i + 1), ct := Pv (i + 1), bk := D.nx } σ2 H2) (hd : ∀ σ' H', Pv (n - lo).toNat σ' H' → D.nx σ' H') :
    ∃ i j : Int, [V.int lo, V.int n] = [.int i, .int j] ∧ (-(2 ^ 62) ≤ i ∧ i < 2 ^ 62 ∧ -(2 ^ 62) ≤ j ∧ j < 2 ^ 62) ∧ ForJ (Itr i (j - i).toNat) g t D σ H :=
  ⟨lo, n, rfl, hb, for_range (lo := lo) (n := (n - lo).toNat) Pv h0 (fun i σ' H' hi q => hs i σ' H' (by omega) q) hd⟩
/-! ### targets -/
theorem x_gtup {n : Nat} {p : Addr} {xs : List V} {gs : TGs} {k : L2.St → Hp → Prop} (hx : SqT K H p xs) (hn : xs.length = n) (h : gs xs σ H k) : gTup K n gs (.ref p) σ H k := ⟨p, xs, rfl, hx, hn, h⟩
theorem x_gcons {gs : TGs} {v : V} {r : List V} {k : L2.St → Hp → Prop} (h : g v σ H fun σ' H' => gs r σ' H' k) : gCons g gs (v :: r) σ H k := ⟨v, r, rfl, h⟩
theorem x_gnil {k : L2.St → Hp → Prop} (h : k σ H) : gNil [] σ H k := ⟨rfl, h⟩
end
theorem sz {n : Nat} (h : n ≤ 100000) : n ≤ sizeLine := Nat.le_trans h (by decide)
theorem szl {n : Nat} (h : n < 100000) : n < sizeLine := Nat.lt_of_lt_of_le h (by decide)
theorem _root_.L2.Same.seqT {K : PySem.W.Frag} {H H' : Hp} {a : Addr} {xs : List V} (e : Same H H') (h : SqT K H a xs) : SqT K H' a xs := by
  rcases h with (h | ⟨o, h⟩) | h
  · exact .inl (.inl (e _ _ h))
  · exact .inl (.inr ⟨o, e _ _ h⟩)
  · exact .inr h
theorem g_var {i : Nat} {σ : L2.St} {H : Hp} {Q : VK} (h : tVar i σ H Q) : tVar i σ H Q := h
theorem g_I {C : Int → Int → Prop} {f : Int → Int → V} {x y : V} {H : Hp} {Q : VK} (h : rI C f x y H Q) : rI C f x y H Q := h
end XS

namespace XS
open PySem PySem.Spec PyProof.Rows L2
/-! ### texts in order -/
def slt (a b : Str) : Prop := ltCps a.cps.toList b.cps.toList = true
theorem ltC_irr : ∀ a : List Nat, ltCps a a = false
  | [] => rfl
  | a :: r => by
    show (decide (a < a) || (a == a && ltCps r r)) = false
    rw [ltC_irr r]; simp
theorem ltC_tr : ∀ a b c : List Nat, ltCps a b = true → ltCps b c = true → ltCps a c = true
  | [], [], _, h, _ => by cases h
  | [], _ :: _, [], _, h => by cases h
  | [], _ :: _, _ :: _, _, _ => rfl
  | _ :: _, [], _, h, _ => by cases h
  | _ :: _, _ :: _, [], _, h => by cases h
  | a :: r, b :: s, c :: t, h1, h2 => by
    have h1' : (decide (a < b) || (a == b && ltCps r s)) = true := h1
    have h2' : (decide (b < c) || (b == c && ltCps s t)) = true := h2
    show (decide (a < c) || (a == c && ltCps r t)) = true
    simp only [Bool.or_eq_true, Bool.and_eq_true, decide_eq_true_eq, beq_iff_eq] at *
    rcases h1' with h1' | ⟨h1', h3⟩
    · rcases h2' with h2' | ⟨h2', h4⟩
      · exact .inl (by omega)
      · exact .inl (by omega)
    · rcases h2' with h2' | ⟨h2', h4⟩
      · exact .inl (by omega)
      · exact .inr ⟨by omega, ltC_tr r s t h3 h4⟩
theorem ltC_tot : ∀ a b : List Nat, ltCps a b = false → ltCps b a = false → a = b
  | [], [], _, _ => rfl
  | [], _ :: _, h, _ => by cases h
  | _ :: _, [], _, h => by cases h
  | a :: r, b :: s, h1, h2 => by
    have h1' : (decide (a < b) || (a == b && ltCps r s)) = false := h1
    have h2' : (decide (b < a) || (b == a && ltCps s r)) = false := h2
    simp only [Bool.or_eq_false_iff, Bool.and_eq_false_iff, decide_eq_false_iff_not, beq_eq_false_iff_ne] at *
    have e : a = b := by omega
    subst e
    have h3 : ltCps r s = false := by rcases h1'.2 with h | h; exact absurd rfl h; exact h
    have h4 : ltCps s r = false := by rcases h2'.2 with h | h; exact absurd rfl h; exact h
    rw [ltC_tot r s h3 h4]
theorem str_ext {a b : Str} (h : a.cps.toList = b.cps.toList) : a = b := by
  cases a; cases b
  simp at h
  subst h
  rfl
theorem slt_irr (a : Str) : ¬ slt a a := by unfold slt; rw [ltC_irr]; exact Bool.false_ne_true
theorem slt_tr {a b c : Str} (h1 : slt a b) (h2 : slt b c) : slt a c := ltC_tr _ _ _ h1 h2
theorem slt_asym {a b : Str} (h1 : slt a b) (h2 : slt b a) : False := slt_irr _ (slt_tr h1 h2)
theorem slt_tot {a b : Str} (h1 : ¬ slt a b) (h2 : ¬ slt b a) : a = b := str_ext (ltC_tot _ _ (by unfold slt at h1; simpa using h1) (by unfold slt at h2; simpa using h2))
theorem slt_lt {a b : Str} : slt a b ↔ a.cps.toList < b.cps.toList := by unfold slt; rw [ltCps_eq]; simp
/-- rising names -/
def Rising (xs : List Str) : Prop := xs.Pairwise slt
theorem rising_of : ∀ {xs : List Str}, xs.Nodup → sortedS xs = true → Rising xs := by
  have key : ∀ (r : List Str) (p : Str), (p :: r).Nodup → risingS p r = true → Rising (p :: r) := by
    intro r
    induction r with
    | nil => intro p _ _; exact List.pairwise_singleton _ _
    | cons x r ih =>
      intro p nd h
      have h' : (!ltCps x.cps.toList p.cps.toList && risingS x r) = true := h
      simp only [Bool.and_eq_true, Bool.not_eq_true'] at h'
      have nd2 := (List.nodup_cons.mp nd).2
      have ih' := ih x nd2 h'.2
      have hpx : slt p x := by
        by_cases e : slt p x
        · exact e
        · have : p = x := slt_tot e (by unfold slt; rw [h'.1]; exact Bool.false_ne_true)
          subst this
          exact absurd (List.mem_cons_self ..) (List.nodup_cons.mp nd).1
      refine List.pairwise_cons.mpr ⟨fun y hy => ?_, ih'⟩
      rcases List.mem_cons.mp hy with rfl | hy
      · exact hpx
      · exact slt_tr hpx (List.rel_of_pairwise_cons ih' hy)
  intro xs nd h
  cases xs with
  | nil => exact List.Pairwise.nil
  | cons p r => exact key r p nd h
theorem Rising.nodup {xs : List Str} (h : Rising xs) : xs.Nodup := List.Pairwise.imp (fun {a b} h e => by subst e; exact slt_irr _ h) h
/-- rising lists of the same members are the same -/
theorem rising_ext : ∀ {xs ys : List Str}, Rising xs → Rising ys → (∀ x, x ∈ xs ↔ x ∈ ys) → xs = ys
  | [], [], _, _, _ => rfl
  | [], y :: _, _, _, h => absurd ((h y).mpr (List.mem_cons_self ..)) (by simp)
  | x :: _, [], _, _, h => absurd ((h x).mp (List.mem_cons_self ..)) (by simp)
  | x :: xs, y :: ys, hx, hy, h => by
    have e : x = y := by
      rcases List.mem_cons.mp ((h x).mp (List.mem_cons_self ..)) with e | hm
      · exact e
      · rcases List.mem_cons.mp ((h y).mpr (List.mem_cons_self ..)) with e | hm2
        · exact e.symm
        · exact (slt_asym (List.rel_of_pairwise_cons hx hm2) (List.rel_of_pairwise_cons hy hm)).elim
    subst e
    have : xs = ys := by
      refine rising_ext (List.pairwise_cons.mp hx).2 (List.pairwise_cons.mp hy).2 fun z => ⟨fun hz => ?_, fun hz => ?_⟩
      · rcases List.mem_cons.mp ((h z).mp (List.mem_cons_of_mem _ hz)) with e | hm
        · subst e; exact (slt_irr _ (List.rel_of_pairwise_cons hx hz)).elim
        · exact hm
      · rcases List.mem_cons.mp ((h z).mpr (List.mem_cons_of_mem _ hz)) with e | hm
        · subst e; exact (slt_irr _ (List.rel_of_pairwise_cons hy hz)).elim
        · exact hm
    rw [this]
/-! ### sums -/
abbrev Pr := Str × Int
/-- the share of a name in pairs, in any order -/
def shr (ps : List Pr) (x : Str) : Int := ((ps.filter fun p => decide (p.1 = x)).map (·.2)).sum
theorem shr_nil (x : Str) : shr [] x = 0 := rfl
theorem shr_cons (p : Pr) (ps : List Pr) (x : Str) : shr (p :: ps) x = (if p.1 = x then p.2 else 0) + shr ps x := by
  unfold shr
  by_cases h : p.1 = x
  · rw [List.filter_cons, if_pos (by simpa using h), if_pos h]; rfl
  · rw [List.filter_cons, if_neg (by simpa using h), if_neg h, Int.zero_add]
theorem shr_app (ps qs : List Pr) (x : Str) : shr (ps ++ qs) x = shr ps x + shr qs x := by
  unfold shr
  rw [List.filter_append, List.map_append, List.sum_append]
theorem shr_out {ps : List Pr} {x : Str} (h : x ∉ ps.map (·.1)) : shr ps x = 0 := by
  induction ps with
  | nil => rfl
  | cons p ps ih =>
    rw [List.map_cons, List.mem_cons, not_or] at h
    rw [shr_cons, if_neg (fun e => h.1 e.symm), ih h.2, Int.zero_add]
theorem shr_at {ps : List Pr} {p : Pr} (nd : (ps.map (·.1)).Nodup) (h : p ∈ ps) : shr ps p.1 = p.2 := by
  induction ps with
  | nil => cases h
  | cons q ps ih =>
    rw [List.map_cons] at nd
    have nd' := List.nodup_cons.mp nd
    rw [shr_cons]
    rcases List.mem_cons.mp h with rfl | h
    · rw [if_pos rfl, shr_out nd'.1, Int.add_zero]
    · rw [if_neg (fun e => nd'.1 (by rw [e]; exact List.mem_map_of_mem h)), ih nd'.2 h, Int.zero_add]
/-- the form of a sum's parts -/
structure Norm (ps : List Pr) : Prop where
  rise : Rising (ps.map (·.1))
  nz : ∀ p ∈ ps, p.2 ≠ 0
theorem Norm.mem_iff {ps : List Pr} (n : Norm ps) (x : Str) : x ∈ ps.map (·.1) ↔ shr ps x ≠ 0 := by
  constructor
  · intro h
    obtain ⟨p, hp, rfl⟩ := List.mem_map.mp h
    rw [shr_at n.rise.nodup hp]
    exact n.nz p hp
  · intro h
    by_cases c : x ∈ ps.map (·.1)
    · exact c
    · exact absurd (shr_out c) h
theorem pairs_of {ps : List Pr} (nd : (ps.map (·.1)).Nodup) : ps = (ps.map (·.1)).map fun x => (x, shr ps x) := by
  rw [List.map_map]
  refine (List.map_id ps).symm.trans (List.map_congr_left fun p hp => ?_)
  show p = (p.1, shr ps p.1)
  rw [shr_at nd hp]
theorem norm_ext {ps qs : List Pr} (n : Norm ps) (m : Norm qs) (h : ∀ x, shr ps x = shr qs x) : ps = qs := by
  have e : ps.map (·.1) = qs.map (·.1) := rising_ext n.rise m.rise fun x => by rw [n.mem_iff, m.mem_iff, h]
  rw [pairs_of n.rise.nodup, pairs_of m.rise.nodup, e]
  exact List.map_congr_left fun x _ => by rw [h]
/-- of rising names those with a share -/
def kept (xs : List Str) (f : Str → Int) : List Pr := (xs.filter fun x => decide (f x ≠ 0)).map fun x => (x, f x)
theorem kept_names (xs : List Str) (f : Str → Int) : (kept xs f).map (·.1) = xs.filter fun x => decide (f x ≠ 0) := by
  unfold kept
  rw [List.map_map]
  exact (List.map_congr_left fun x _ => rfl).trans (List.map_id _)
theorem kept_norm {xs : List Str} {f : Str → Int} (h : Rising xs) : Norm (kept xs f) where
  rise := by rw [kept_names]; exact List.Pairwise.sublist List.filter_sublist h
  nz := fun p hp => by
    unfold kept at hp
    obtain ⟨x, hx, rfl⟩ := List.mem_map.mp hp
    simpa using (List.mem_filter.mp hx).2
theorem kept_shr {xs : List Str} {f : Str → Int} (h : Rising xs) (hf : ∀ x, x ∉ xs → f x = 0) (x : Str) : shr (kept xs f) x = f x := by
  by_cases c : x ∈ (kept xs f).map (·.1)
  · obtain ⟨p, hp, rfl⟩ := List.mem_map.mp c
    rw [shr_at (kept_norm h).rise.nodup hp]
    unfold kept at hp
    obtain ⟨y, hy, rfl⟩ := List.mem_map.mp hp
    rfl
  · rw [shr_out c]
    rw [kept_names, List.mem_filter] at c
    by_cases d : x ∈ xs
    · by_cases e : f x = 0
      · exact e.symm
      · exact absurd ⟨d, by simpa using e⟩ c
    · exact (hf x d).symm
/-! ### data -/
def prT (p : Pr) : PyData := .tuple [.str p.1, .int p.2]
abbrev Sm := Int × List Pr
def sumD (s : Sm) : PyData := .tuple [.int s.1, .tuple (s.2.map prT)]
/-- data of ints, texts, True, None, tuples and lists, n deep at most -/
inductive Al : Nat → PyData → Prop
  | int {n : Nat} (i : Int) : Al n (.int i)
  | str {n : Nat} (x : Str) : Al n (.str x)
  | tru {n : Nat} : Al n (.bool true)
  | non {n : Nat} : Al n .none
  | tup {n : Nat} {ds : List PyData} : (∀ d ∈ ds, Al n d) → ds.length ≤ 1000 → Al (n + 1) (.tuple ds)
  | lst {n : Nat} {ds : List PyData} : (∀ d ∈ ds, Al n d) → ds.length ≤ 1000 → Al (n + 1) (.list ds)
theorem al_pair {n : Nat} (p : Pr) : Al (n + 1) (prT p) := by
  refine .tup (fun d hd => ?_) (by simp)
  rcases List.mem_cons.mp hd with rfl | hd
  · exact .str _
  · rcases List.mem_cons.mp hd with rfl | hd
    · exact .int _
    · cases hd
theorem al_sum {n : Nat} {s : Sm} (h : s.2.length ≤ 1000) : Al (n + 3) (sumD s) := by
  refine .tup (fun d hd => ?_) (by simp)
  rcases List.mem_cons.mp hd with rfl | hd
  · exact .int _
  · rcases List.mem_cons.mp hd with rfl | hd
    · refine .tup (fun d hd => ?_) (by rw [List.length_map]; exact h)
      obtain ⟨p, _, rfl⟩ := List.mem_map.mp hd
      exact al_pair p
    · cases hd
end XS
namespace L2
open PySem PySem.Spec PyProof.Rows XS
section
variable {K : PySem.W.Frag} {H H' : Hp}
/-! what stands keeps its data -/
mutual
theorem Dp.same (e : Same H H') : ∀ (d : PyData) (v : V), Dp K H v d → Dp K H' v d
  | .none, _, h => by cases h; exact .non
  | .bool b, _, h => by cases h; exact .bl b
  | .int i, _, h => by cases h; exact .int i
  | .str x, _, h => by cases h; exact .str x
  | .list ds, _, h => by
    cases h with
    | lst hs ha => exact .lst (e.seq hs) (DpAll.same e ds _ ha)
  | .tuple ds, _, h => by
    cases h with
    | tup hs ha => exact .tup (e.seqT hs) (DpAll.same e ds _ ha)
  | .dict _, _, h => by cases h
theorem DpAll.same (e : Same H H') : ∀ (ds : List PyData) (vs : List V), DpAll K H vs ds → DpAll K H' vs ds
  | [], _, h => by cases h; exact .nil
  | d :: ds, _, h => by
    cases h with
    | cons h1 h2 => exact .cons (Dp.same e d _ h1) (DpAll.same e ds _ h2)
end
theorem DpAll.len : ∀ {vs : List V} {ds : List PyData}, DpAll K H vs ds → vs.length = ds.length
  | [], _, h => by cases h; rfl
  | v :: vs, _, h => by
    cases h with
    | cons h1 h2 => rw [List.length_cons, List.length_cons, DpAll.len h2]
theorem DpAll.get : ∀ {vs : List V} {ds : List PyData} {i : Nat} {d : PyData}, DpAll K H vs ds → ds[i]? = some d → ∃ v, vs[i]? = some v ∧ Dp K H v d
  | [], _, i, d, h, e => by cases h; simp at e
  | v :: vs, _, 0, d, h, e => by
    cases h with
    | cons h1 h2 =>
      simp at e
      subst e
      exact ⟨v, rfl, h1⟩
  | v :: vs, _, i + 1, d, h, e => by
    cases h with
    | cons h1 h2 =>
      obtain ⟨u, q1, q2⟩ := DpAll.get (i := i) (d := d) h2 (by simpa using e)
      exact ⟨u, by simpa using q1, q2⟩
theorem DpAll.getV : ∀ {vs : List V} {ds : List PyData} {i : Nat} {v : V}, DpAll K H vs ds → vs[i]? = some v → ∃ d, ds[i]? = some d ∧ Dp K H v d
  | [], _, i, d, h, e => by simp at e
  | v :: vs, _, 0, d, h, e => by
    cases h with
    | cons h1 h2 =>
      simp at e
      subst e
      exact ⟨_, rfl, h1⟩
  | v :: vs, _, i + 1, d, h, e => by
    cases h with
    | cons h1 h2 =>
      obtain ⟨u, q1, q2⟩ := DpAll.getV (i := i) h2 (by simpa using e)
      exact ⟨u, by simpa using q1, q2⟩
theorem DpAll.app : ∀ {vs ws : List V} {ds es : List PyData}, DpAll K H vs ds → DpAll K H ws es → DpAll K H (vs ++ ws) (ds ++ es)
  | [], _, _, _, h, g => by cases h; exact g
  | v :: vs, _, _, _, h, g => by
    cases h with
    | cons h1 h2 => exact .cons h1 (DpAll.app h2 g)
theorem DpAll.one {v : V} {d : PyData} (h : Dp K H v d) : DpAll K H [v] [d] := .cons h .nil
end
end L2
namespace XS
open PySem PySem.Spec PyProof.Rows L2
section
variable {K : PySem.W.Frag} {H H' : Hp}
/-- the kinds of objects -/
theorem tyx_T {a : Addr} {xs : List V} (h : SqT K H a xs) : TyX K H (.ref a) (.type "tuple") := by
  rcases h with (h | ⟨o, h⟩) | ⟨o, its, n, h, hc, _⟩
  · exact .base (.tup h)
  · exact .fTuple h
  · exact .kTuple h hc
theorem tyx_L {a : Addr} {xs : List V} (h : SqL K H a xs) : TyX K H (.ref a) (.type "list") := by
  rcases h with (h | ⟨o, h⟩) | ⟨o, its, n, h, hc, _⟩
  · exact .base (.lst h)
  · exact .base (.frz h)
  · exact .kList h hc
end
/-- x is True, False -/
def rIsC : R2 := fun x y H Q => ∃ b, y = .bl b ∧ Q (.bl (decide (x = .bl b))) H
theorem op_isC {X : Cx} : OpR X (compareOp .Is) rIsC := by
  intro pins s σ H x y v u Q I rx ry h
  obtain ⟨b, rfl, q⟩ := h
  cases (show u = Value.bool b from ry)
  have fin : ∀ k, decide (x = V.bl b) = k → wpAny (model X.prog X.w) X.A (pure (Value.bool k)) (EP X pins σ Q) X.xe s := fun k e => wpAny_pure ⟨.bl k, H, I, rfl, by rw [← e]; exact q⟩
  cases x with
  | non => cases rx; exact fin false (by simp)
  | bl a =>
    cases rx
    have e : (Value.bool a == Value.bool b) = decide (V.bl a = V.bl b) := by cases a <;> cases b <;> rfl
    show wpAny _ _ (pure (Value.bool (Value.bool a == Value.bool b))) _ _ _
    rw [e]
    exact fin _ rfl
  | int i => obtain ⟨t, rfl⟩ := rx; exact fin false (by simp)
  | str i => obtain ⟨t, rfl⟩ := rx; exact fin false (by simp)
  | byt i => obtain ⟨t, rfl⟩ := rx; exact fin false (by simp)
  | flt i => obtain ⟨t, rfl⟩ := rx; exact fin false (by simp)
  | ref i => cases rx; exact fin false (by simp)
  | ty i => cases rx; exact fin false (by simp)
end XS

namespace XS
open PySem PySem.Spec PyProof.Rows L2
/-! ### data that never changes: tuples, ints, texts -/
inductive Im : PyData → Prop
  | int (i : Int) : Im (.int i)
  | str (x : Str) : Im (.str x)
  | bl (b : Bool) : Im (.bool b)
  | non : Im .none
  | tup {ds : List PyData} : (∀ d ∈ ds, Im d) → Im (.tuple ds)
theorem im_pair (p : Pr) : Im (prT p) := by
  refine .tup fun d hd => ?_
  rcases List.mem_cons.mp hd with rfl | hd
  · exact .str _
  · rcases List.mem_cons.mp hd with rfl | hd
    · exact .int _
    · cases hd
theorem im_tup2 {a b : PyData} (ha : Im a) (hb : Im b) : Im (.tuple [a, b]) := by
  refine .tup fun d hd => ?_
  rcases List.mem_cons.mp hd with rfl | hd
  · exact ha
  · rcases List.mem_cons.mp hd with rfl | hd
    · exact hb
    · cases hd
theorem im_map {α : Type} {l : List α} {f : α → PyData} (h : ∀ x ∈ l, Im (f x)) : Im (.tuple (l.map f)) := .tup fun d hd => by
  obtain ⟨x, hx, rfl⟩ := List.mem_map.mp hd
  exact h x hx
theorem im_sum (s : Sm) : Im (sumD s) := im_tup2 (.int _) (im_map fun p _ => im_pair p)
/-- what never changes stands -/
def Keeps (H H' : Hp) : Prop := ∀ a u, (∃ xs, u = HO.tup xs) ∨ (∃ o w, u = HO.frz o w) → H a = some u → H' a = some u
theorem Keeps.refl (H : Hp) : Keeps H H := fun _ _ _ h => h
theorem Keeps.trans {H H1 H2 : Hp} (a : Keeps H H1) (b : Keeps H1 H2) : Keeps H H2 := fun x u k h => b x u k (a x u k h)
theorem _root_.L2.Same.keeps {H H' : Hp} (e : Same H H') : Keeps H H' := fun a u _ h => e a u h
theorem keeps_lst {H : Hp} {p : Addr} {xs ys : List V} (h : H p = some (.lst xs)) : Keeps H (upd H p (.lst ys)) := fun a u k e => by
  rw [upd_ne (fun z => ?_)]
  · exact e
  · subst z
    rw [h] at e
    cases e
    rcases k with ⟨_, k⟩ | ⟨_, _, k⟩ <;> cases k
theorem keeps_dk {H : Hp} {p : Addr} {xs ys : List (Key × V)} (h : H p = some (.dK xs)) : Keeps H (upd H p (.dK ys)) := fun a u k e => by
  rw [upd_ne (fun z => ?_)]
  · exact e
  · subst z
    rw [h] at e
    cases e
    rcases k with ⟨_, k⟩ | ⟨_, _, k⟩ <;> cases k
theorem Keeps.seqT {K : PySem.W.Frag} {H H' : Hp} {a : Addr} {xs : List V} (e : Keeps H H') (h : SqT K H a xs) : SqT K H' a xs := by
  rcases h with (h | ⟨o, h⟩) | h
  · exact .inl (.inl (e _ _ (.inl ⟨_, rfl⟩) h))
  · exact .inl (.inr ⟨o, e _ _ (.inr ⟨_, _, rfl⟩) h⟩)
  · exact .inr h
end XS
namespace L2
open PySem PySem.Spec PyProof.Rows XS
section
variable {K : PySem.W.Frag} {H H' : Hp}
mutual
theorem Dp.keeps (e : Keeps H H') : ∀ (d : PyData) (v : V), Im d → Dp K H v d → Dp K H' v d
  | .none, _, _, h => by cases h; exact .non
  | .bool b, _, _, h => by cases h; exact .bl b
  | .int i, _, _, h => by cases h; exact .int i
  | .str x, _, _, h => by cases h; exact .str x
  | .list ds, _, i, h => by cases i
  | .tuple ds, _, i, h => by
    cases h with
    | tup hs ha =>
      cases i with
      | tup i => exact .tup (XS.Keeps.seqT e hs) (DpAll.keeps e ds _ i ha)
  | .dict _, _, _, h => by cases h
theorem DpAll.keeps (e : Keeps H H') : ∀ (ds : List PyData) (vs : List V), (∀ d ∈ ds, Im d) → DpAll K H vs ds → DpAll K H' vs ds
  | [], _, _, h => by cases h; exact .nil
  | d :: ds, _, i, h => by
    cases h with
    | cons h1 h2 => exact .cons (Dp.keeps e d _ (i d (List.mem_cons_self ..)) h1) (DpAll.keeps e ds _ (fun z hz => i z (List.mem_cons_of_mem _ hz)) h2)
end
/-- pairs, sums as they stand -/
theorem Dp.pair {v : V} {p : Pr} (h : Dp K H v (prT p)) : ∃ b, v = .ref b ∧ SqT K H b [.str p.1, .int p.2] := by
  unfold prT at h
  cases h with
  | tup hs ha =>
    cases ha with
    | cons h1 h2 =>
      cases h2 with
      | cons h2 h3 =>
        cases h3
        cases h1
        cases h2
        exact ⟨_, rfl, hs⟩
theorem Dp.mkPair {b : Addr} {p : Pr} (h : SqT K H b [.str p.1, .int p.2]) : Dp K H (.ref b) (prT p) := .tup h (.cons (.str _) (.cons (.int _) .nil))
theorem Dp.sum {v : V} {s : Sm} (h : Dp K H v (sumD s)) : ∃ a b vs, v = .ref a ∧ SqT K H a [.int s.1, .ref b] ∧ SqT K H b vs ∧ DpAll K H vs (s.2.map prT) := by
  unfold sumD at h
  cases h with
  | tup hs ha =>
    cases ha with
    | cons h1 h2 =>
      cases h2 with
      | cons h2 h3 =>
        cases h3
        cases h1
        cases h2 with
        | tup hb hc => exact ⟨_, _, _, rfl, hs, hb, hc⟩
theorem Dp.mkSum {a b : Addr} {vs : List V} {s : Sm} (h1 : SqT K H a [.int s.1, .ref b]) (h2 : SqT K H b vs) (h3 : DpAll K H vs (s.2.map prT)) : Dp K H (.ref a) (sumD s) :=
  .tup h1 (.cons (.int _) (.cons (.tup h2 h3) .nil))
theorem DpAll.ints : ∀ {vs : List V} {ns : List Int}, DpAll K H vs (ns.map PyData.int) → vs = ns.map V.int
  | [], [], _ => rfl
  | [], n :: _, h => by cases h
  | v :: vs, [], h => by cases h
  | v :: vs, n :: ns, h => by
    cases h with
    | cons h1 h2 =>
      cases h1
      rw [DpAll.ints h2]
      rfl
theorem DpAll.strs : ∀ {vs : List V} {ns : List Str}, DpAll K H vs (ns.map PyData.str) → vs = ns.map V.str
  | [], [], _ => rfl
  | [], n :: _, h => by cases h
  | v :: vs, [], h => by cases h
  | v :: vs, n :: ns, h => by
    cases h with
    | cons h1 h2 =>
      cases h1
      rw [DpAll.strs h2]
      rfl
theorem DpAll.ofInts : ∀ (ns : List Int), DpAll K H (ns.map V.int) (ns.map PyData.int)
  | [] => .nil
  | n :: ns => .cons (.int n) (DpAll.ofInts ns)
theorem DpAll.ofStrs : ∀ (ns : List Str), DpAll K H (ns.map V.str) (ns.map PyData.str)
  | [] => .nil
  | n :: ns => .cons (.str n) (DpAll.ofStrs ns)
end
end L2
namespace XS
open PySem PySem.Spec PyProof.Rows L2
/-! ### comprehensions: what is built of immutable data -/
def LcJ (J : It) (g : TG) (tt : TT) (te : TE) (vs : List Nat) : TE := tLc (fun _ H' R => R J H') g tt te vs
section
variable {K : PySem.W.Frag} {σ : L2.St} {H : Hp} {te : TE} {tt : TT} {g : TG} {vs : List Nat} {Q : VK} {α : Type}
theorem x_tyes {k : Bool → Hp → Prop} (h : k true H) : tYes σ H k := h
theorem x_lc {wi : TI} (h : wi σ H fun J H1 => LcJ J g tt te vs σ H1 Q) : tLc wi g tt te vs σ H Q := h
/-- the list so far -/
def LcAt (K : PySem.W.Frag) (H : Hp) (Dl : Addr) (ds : List PyData) (H' : Hp) : Prop := H Dl = none ∧ Same H H' ∧ ∃ acc, H' Dl = some (.lst acc) ∧ DpAll K H' acc ds
theorem lcAt_more {Dl : Addr} {ds : List PyData} {H' H4 : Hp} {y : V} {d : PyData} (a : LcAt K H Dl ds H') (e : Same H' H4) (hd : Dp K H4 y d) (im : Im d) (ims : ∀ d ∈ ds, Im d) (hz : ds.length < 100000) :
    ∃ acc, H4 Dl = some (.lst acc) ∧ acc.length < sizeLine ∧ LcAt K H Dl (ds ++ [d]) (upd H4 Dl (.lst (acc ++ [y]))) := by
  obtain ⟨a1, a2, acc, a3, a4⟩ := a
  have k := keeps_lst (ys := acc ++ [y]) (e _ _ a3)
  refine ⟨acc, e _ _ a3, szl (by have := a4.len; omega), a1, same_mut (a2.trans e) a1, acc ++ [y], upd_same, ?_⟩
  exact (DpAll.keeps k ds acc ims (DpAll.same e ds acc a4)).app (.one (Dp.keeps k d y im hd))
theorem take_more {l : List α} {i : Nat} {x : α} (h : l[i]? = some x) : l.take (i + 1) = l.take i ++ [x] := by
  rw [List.take_add_one, h]
  rfl
theorem map_at {β : Type} {zs : List α} {emb : α → β} {i : Nat} {x : β} (h : (zs.map emb)[i]? = some x) : ∃ z, zs[i]? = some z ∧ x = emb z := by
  rw [List.getElem?_map] at h
  cases e : zs[i]? with
  | none => rw [e] at h; cases h
  | some z => rw [e] at h; exact ⟨z, rfl, (Option.some.inj h).symm⟩
/-- one turn, with the continuations left open -/
def LcTurn (K : PySem.W.Frag) (H : Hp) (g : TG) (tt : TT) (te : TE) (σ : L2.St) (vs : List Nat) (x : V) (b : Bool) (d : PyData) : Prop :=
  ∀ (H' : Hp) (Yes : V → Hp → Prop) (No : Hp → Prop), Same H H' → (∀ y H4, Same H' H4 → b = true → Dp K H4 y d → Yes y H4) → (∀ H4, Same H' H4 → b = false → No H4) →
    g x (wipe σ vs) H' fun σ2 H2 => wipe σ2 vs = wipe σ vs ∧ tt σ2 H2 fun b H3 => if b = true then te σ2 H3 Yes else No H3
theorem x_lcL {p : Addr} (zs : List α) (emb : α → V) (f : α → Bool) (dd : α → PyData) (hx : SqL K H p (zs.map emb)) (hz : zs.length < 50000) (im : ∀ z, Im (dd z))
    (turn : ∀ z ∈ zs, LcTurn K H g tt te σ vs (emb z) (f z) (dd z))
    (done : ∀ Dl H' acc, H Dl = none → Same H H' → H' Dl = some (.lst acc) → DpAll K H' acc ((zs.filter f).map dd) → Q (.ref Dl) H') :
    ∃ a, V.ref p = .ref a ∧ (∃ xs, SqL K H a xs) ∧ LcJ (Itl K a) g tt te vs σ H Q := by
  refine ⟨p, rfl, ⟨_, hx⟩, fun Dl hD => lc_list (K := K) (a := p) (xs := zs.map emb) (fun i H' => LcAt K H Dl (((zs.take i).filter f).map dd) H')
    ⟨hD, same_upd hD, [], upd_same, .nil⟩ (fun i H' _ a => a.2.1.seq hx) (fun i x H' hi a => ?_) (fun H' a => ?_)⟩
  · obtain ⟨z, hz1, rfl⟩ := map_at hi
    have hl : (((zs.take i).filter f).map dd).length < 100000 := by
      rw [List.length_map]
      have h1 := List.length_filter_le f (zs.take i)
      rw [List.length_take] at h1
      omega
    refine turn z (List.mem_of_getElem? hz1) H' _ _ a.2.1 (fun y H4 e hf hd => ?_) (fun H4 e hf => ?_)
    · have := lcAt_more a e hd (im z) (fun d hd => by obtain ⟨q, _, rfl⟩ := List.mem_map.mp hd; exact im q) hl
      rw [take_more hz1, List.filter_append, List.map_append, List.filter_cons, if_pos hf]
      exact this
    · rw [take_more hz1, List.filter_append, List.map_append, List.filter_cons, if_neg (by rw [hf]; exact Bool.false_ne_true)]
      show LcAt K H Dl (_ ++ []) H4
      rw [List.append_nil]
      obtain ⟨a1, a2, acc, a3, a4⟩ := a
      exact ⟨a1, a2.trans e, acc, e _ _ a3, DpAll.same e _ _ a4⟩
  · obtain ⟨a1, a2, acc, a3, a4⟩ := a
    rw [List.length_map, List.take_length] at a4
    exact done Dl H' acc a1 a2 a3 a4
theorem x_lcT {p : Addr} (zs : List α) (ws : List V) (f : α → Bool) (dd : α → PyData) (hx : SqT K H p ws) (hl : ws.length = zs.length) (hz : zs.length < 50000) (im : ∀ z, Im (dd z))
    (turn : ∀ (i : Nat) (z : α) (w : V), zs[i]? = some z → ws[i]? = some w → LcTurn K H g tt te σ vs w (f z) (dd z))
    (done : ∀ Dl H' acc, H Dl = none → Same H H' → H' Dl = some (.lst acc) → DpAll K H' acc ((zs.filter f).map dd) → Q (.ref Dl) H') :
    ∃ a, V.ref p = .ref a ∧ (∃ xs, SqT K H a xs) ∧ LcJ (Itt K a) g tt te vs σ H Q := by
  refine ⟨p, rfl, ⟨_, hx⟩, fun Dl hD => lc_tup (K := K) (a := p) (xs := ws) (fun i H' => LcAt K H Dl (((zs.take i).filter f).map dd) H')
    ⟨hD, same_upd hD, [], upd_same, .nil⟩ (fun i H' _ a => a.2.1.seqT hx) (fun i x H' hi a => ?_) (fun H' a => ?_)⟩
  · have hlt : i < zs.length := by rw [← hl]; exact (List.getElem?_eq_some_iff.mp hi).1
    have hz1 : zs[i]? = some zs[i] := List.getElem?_eq_getElem hlt
    have hl : (((zs.take i).filter f).map dd).length < 100000 := by
      rw [List.length_map]
      have h1 := List.length_filter_le f (zs.take i)
      rw [List.length_take] at h1
      omega
    refine turn i zs[i] x hz1 hi H' _ _ a.2.1 (fun y H4 e hf hd => ?_) (fun H4 e hf => ?_)
    · have := lcAt_more a e hd (im zs[i]) (fun d hd => by obtain ⟨q, _, rfl⟩ := List.mem_map.mp hd; exact im q) hl
      rw [take_more hz1, List.filter_append, List.map_append, List.filter_cons, if_pos hf]
      exact this
    · rw [take_more hz1, List.filter_append, List.map_append, List.filter_cons, if_neg (by rw [hf]; exact Bool.false_ne_true)]
      show LcAt K H Dl (_ ++ []) H4
      rw [List.append_nil]
      obtain ⟨a1, a2, acc, a3, a4⟩ := a
      exact ⟨a1, a2.trans e, acc, e _ _ a3, DpAll.same e _ _ a4⟩
  · obtain ⟨a1, a2, acc, a3, a4⟩ := a
    rw [hl, List.take_length] at a4
    exact done Dl H' acc a1 a2 a3 a4
theorem x_lcW {p : Addr} (zs : List α) (ws : List V) (f : α → Bool) (dd : α → PyData) (hx : SqL K H p ws) (hl : ws.length = zs.length) (hz : zs.length < 50000) (im : ∀ z, Im (dd z))
    (turn : ∀ (i : Nat) (z : α) (w : V), zs[i]? = some z → ws[i]? = some w → LcTurn K H g tt te σ vs w (f z) (dd z))
    (done : ∀ Dl H' acc, H Dl = none → Same H H' → H' Dl = some (.lst acc) → DpAll K H' acc ((zs.filter f).map dd) → Q (.ref Dl) H') :
    ∃ a, V.ref p = .ref a ∧ (∃ xs, SqL K H a xs) ∧ LcJ (Itl K a) g tt te vs σ H Q := by
  refine ⟨p, rfl, ⟨_, hx⟩, fun Dl hD => lc_list (K := K) (a := p) (xs := ws) (fun i H' => LcAt K H Dl (((zs.take i).filter f).map dd) H')
    ⟨hD, same_upd hD, [], upd_same, .nil⟩ (fun i H' _ a => a.2.1.seq hx) (fun i x H' hi a => ?_) (fun H' a => ?_)⟩
  · have hlt : i < zs.length := by rw [← hl]; exact (List.getElem?_eq_some_iff.mp hi).1
    have hz1 : zs[i]? = some zs[i] := List.getElem?_eq_getElem hlt
    have hl : (((zs.take i).filter f).map dd).length < 100000 := by
      rw [List.length_map]
      have h1 := List.length_filter_le f (zs.take i)
      rw [List.length_take] at h1
      omega
    refine turn i zs[i] x hz1 hi H' _ _ a.2.1 (fun y H4 e hf hd => ?_) (fun H4 e hf => ?_)
    · have := lcAt_more a e hd (im zs[i]) (fun d hd => by obtain ⟨q, _, rfl⟩ := List.mem_map.mp hd; exact im q) hl
      rw [take_more hz1, List.filter_append, List.map_append, List.filter_cons, if_pos hf]
      exact this
    · rw [take_more hz1, List.filter_append, List.map_append, List.filter_cons, if_neg (by rw [hf]; exact Bool.false_ne_true)]
      show LcAt K H Dl (_ ++ []) H4
      rw [List.append_nil]
      obtain ⟨a1, a2, acc, a3, a4⟩ := a
      exact ⟨a1, a2.trans e, acc, e _ _ a3, DpAll.same e _ _ a4⟩
  · obtain ⟨a1, a2, acc, a3, a4⟩ := a
    rw [hl, List.take_length] at a4
    exact done Dl H' acc a1 a2 a3 a4
theorem x_lcR1 {n : Int} (f : Nat → Bool) (dd : Nat → PyData) (hb : 0 ≤ n ∧ n < 50000) (im : ∀ z, Im (dd z))
    (turn : ∀ z : Nat, (z : Int) < n → LcTurn K H g tt te σ vs (.int z) (f z) (dd z))
    (done : ∀ Dl H' acc, H Dl = none → Same H H' → H' Dl = some (.lst acc) → DpAll K H' acc (((List.range n.toNat).filter f).map dd) → Q (.ref Dl) H') :
    ∃ j : Int, [V.int n] = [.int j] ∧ -(2 ^ 62) ≤ j ∧ j < 2 ^ 62 ∧ LcJ (Itr 0 j.toNat) g tt te vs σ H Q := by
  refine ⟨n, rfl, by omega, by omega, fun Dl hD => lc_range (lo := 0) (n := n.toNat) (fun i H' => LcAt K H Dl (((List.range i).filter f).map dd) H')
    ⟨hD, same_upd hD, [], upd_same, .nil⟩ (fun i H' hi a => ?_) (fun H' a => ?_)⟩
  · have hl : (((List.range i).filter f).map dd).length < 100000 := by
      rw [List.length_map]
      have h1 := List.length_filter_le f (List.range i)
      rw [List.length_range] at h1
      omega
    rw [Int.zero_add]
    refine turn i (by omega) H' _ _ a.2.1 (fun y H4 e hf hd => ?_) (fun H4 e hf => ?_)
    · have := lcAt_more a e hd (im i) (fun d hd => by obtain ⟨q, _, rfl⟩ := List.mem_map.mp hd; exact im q) hl
      rw [List.range_succ, List.filter_append, List.map_append, List.filter_cons, if_pos hf]
      exact this
    · rw [List.range_succ, List.filter_append, List.map_append, List.filter_cons, if_neg (by rw [hf]; exact Bool.false_ne_true)]
      show LcAt K H Dl (_ ++ []) H4
      rw [List.append_nil]
      obtain ⟨a1, a2, acc, a3, a4⟩ := a
      exact ⟨a1, a2.trans e, acc, e _ _ a3, DpAll.same e _ _ a4⟩
  · obtain ⟨a1, a2, acc, a3, a4⟩ := a
    exact done Dl H' acc a1 a2 a3 a4
/-- a comprehension's block ends where it began -/
theorem x_lcNo {k : Bool → Hp → Prop} {σ2 : L2.St} {A : Prop} (h1 : A) (h : k true H) : A ∧ tYes σ2 H k := ⟨h1, h⟩
end
/-! ### dicts from texts to ints -/
def dOf (m : List Pr) : List (Key × V) := m.map fun p => (Sum.inr p.1, V.int p.2)
def getP (m : List Pr) (x : Str) : Option Int := (m.find? fun p => decide (p.1 = x)).map (·.2)
def putP (m : List Pr) (x : Str) (v : Int) : List Pr := if (m.any fun p => decide (p.1 = x)) = true then m.map (fun p => if p.1 = x then (p.1, v) else p) else m ++ [(x, v)]
theorem dOf_keys (m : List Pr) : (dOf m).map (·.1) = (m.map (·.1)).map Sum.inr := by
  unfold dOf
  rw [List.map_map, List.map_map]
  rfl
theorem dOf_len (m : List Pr) : (dOf m).length = m.length := List.length_map _
theorem inr_dec (x y : Str) : decide ((Sum.inr x : Key) = Sum.inr y) = decide (x = y) := by
  by_cases e : x = y
  · subst e; simp
  · rw [decide_eq_false e, decide_eq_false (fun q => e (Sum.inr.inj q))]
theorem dOf_val (m : List Pr) (x : Str) : valV (dOf m) (Sum.inr x : Key) = (getP m x).map V.int := by
  unfold valV dOf getP
  rw [List.find?_map]
  have : ((fun kv : Key × V => decide (kv.1 = Sum.inr x)) ∘ fun p : Pr => ((Sum.inr p.1 : Key), V.int p.2)) = fun p : Pr => decide (p.1 = x) := by
    funext p
    exact inr_dec _ _
  rw [this, Option.map_map, Option.map_map]
  rfl
theorem dOf_put (m : List Pr) (x : Str) (v : Int) : putK (dOf m) (Sum.inr x : Key) (V.int v) = dOf (putP m x v) := by
  unfold putK putP dOf
  have : ((List.map (fun p : Pr => ((Sum.inr p.1 : Key), V.int p.2)) m).any fun kv => decide (kv.1 = Sum.inr x)) = m.any fun p => decide (p.1 = x) := by
    rw [List.any_map]
    congr 1
    funext p
    exact inr_dec _ _
  rw [this]
  split
  · rw [List.map_map, List.map_map]
    refine List.map_congr_left fun p _ => ?_
    show (if (Sum.inr p.1 : Key) = Sum.inr x then _ else _) = _
    by_cases e : p.1 = x
    · rw [if_pos (by rw [e])]
      show _ = (Sum.inr (if p.1 = x then (p.1, v) else p).1, V.int (if p.1 = x then (p.1, v) else p).2)
      rw [if_pos e]
    · rw [if_neg (fun q => e (Sum.inr.inj q))]
      show _ = (Sum.inr (if p.1 = x then (p.1, v) else p).1, V.int (if p.1 = x then (p.1, v) else p).2)
      rw [if_neg e]
  · rw [List.map_append]
    rfl
theorem getP_any (m : List Pr) (x : Str) : (m.any fun p => decide (p.1 = x)) = decide (x ∈ m.map (·.1)) := by
  rw [Bool.eq_iff_iff]
  simp only [List.any_eq_true, decide_eq_true_eq, List.mem_map]
  
theorem putP_names (m : List Pr) (x : Str) (v : Int) : (putP m x v).map (·.1) = if x ∈ m.map (·.1) then m.map (·.1) else m.map (·.1) ++ [x] := by
  unfold putP
  rw [getP_any]
  by_cases e : x ∈ m.map (·.1)
  · rw [if_pos (by simpa using e), if_pos e, List.map_map]
    refine List.map_congr_left fun p _ => ?_
    show (if p.1 = x then (p.1, v) else p).1 = p.1
    split <;> rfl
  · rw [if_neg (by simpa using e), if_neg e, List.map_append]
    rfl
theorem putP_nd {m : List Pr} {x : Str} {v : Int} (nd : (m.map (·.1)).Nodup) : ((putP m x v).map (·.1)).Nodup := by
  rw [putP_names]
  split
  · exact nd
  · rename_i h
    refine List.nodup_append.mpr ⟨nd, by simp, fun a ha b hb => ?_⟩
    simp at hb
    subst hb
    intro e
    subst e
    exact h ha
theorem putP_len (m : List Pr) (x : Str) (v : Int) : (putP m x v).length ≤ m.length + 1 := by
  have := congrArg List.length (putP_names m x v)
  rw [List.length_map] at this
  rw [this]
  split
  · rw [List.length_map]; omega
  · rw [List.length_append, List.length_map]; exact Nat.le_refl _
theorem getP_put (m : List Pr) (x y : Str) (v : Int) : getP (putP m x v) y = if y = x then some v else getP m y := by
  have h := valV_put (dOf m) (Sum.inr x : Key) (Sum.inr y) (V.int v)
  rw [dOf_put, dOf_val, dOf_val] at h
  by_cases e : y = x
  · rw [if_pos (by rw [e])] at h
    rw [if_pos e]
    cases q : getP (putP m x v) y with
    | none => rw [q] at h; cases h
    | some z => rw [q] at h; cases h; rfl
  · rw [if_neg (fun q => e (Sum.inr.inj q))] at h
    rw [if_neg e]
    cases q : getP (putP m x v) y with
    | none =>
      rw [q] at h
      cases q2 : getP m y with
      | none => rfl
      | some z => rw [q2] at h; cases h
    | some z =>
      rw [q] at h
      cases q2 : getP m y with
      | none => rw [q2] at h; cases h
      | some z2 => rw [q2] at h; cases h; rfl
theorem getP_some {m : List Pr} {x : Str} : (getP m x).isSome = decide (x ∈ m.map (·.1)) := by
  rw [← getP_any]
  unfold getP
  rw [Option.isSome_map]
  induction m with
  | nil => rfl
  | cons p m ih =>
    rw [List.find?_cons, List.any_cons]
    cases h : decide (p.1 = x) with
    | true => rfl
    | false => rw [Bool.false_or]; exact ih
section
variable {K : PySem.W.Frag} {σ : L2.St} {H : Hp} {td ty tx tv : TE} {Q : VK} {D : Ends} {u : TS}
theorem x_dput (h : tv σ H fun v H1 => td σ H1 fun x H2 => ty σ H2 fun y H3 => ∃ a H4, x = .ref a ∧ DPut H3 a y v H4 ∧ D.nx σ H4) : sDPut td ty tv D σ H := h
theorem x_sdput (h : tv σ H fun v H1 => td σ H1 fun x H2 => ty σ H2 fun y H3 => ∃ a H4, x = .ref a ∧ DPut H3 a y v H4 ∧ u D σ H4) : tSeq (sDPut td ty tv) u D σ H := h
theorem x_dget2 (h : td σ H fun x H1 => ∃ a, x = .ref a ∧ IsD H1 a ∧ ty σ H1 fun y H2 => tx σ H2 fun z H3 => ∃ o, DGet H3 a y o ∧ Q (o.getD z) H3) : tDGet2 td ty tx σ H Q := h
theorem x_dget (h : td σ H fun x H1 => ty σ H1 fun y H2 => ∃ a v, x = .ref a ∧ DGet H2 a y (some v) ∧ Q v H2) : tDGet td ty σ H Q := h
theorem x_dnew (h : ∀ p, H p = none → Q (.ref p) (upd H p (.dK []))) : tDNewK σ H Q := h
theorem x_din (h : ty σ H fun y H1 => td σ H1 fun x H2 => ∃ a o, x = .ref a ∧ DGet H2 a y o ∧ Q (.bl o.isSome) H2) : tDIn ty td σ H Q := h
theorem x_dnotin (h : ty σ H fun y H1 => td σ H1 fun x H2 => ∃ a o, x = .ref a ∧ DGet H2 a y o ∧ Q (.bl (!o.isSome)) H2) : tDNotIn ty td σ H Q := h
end
end XS
namespace XS
open PySem PySem.Spec PyProof.Rows L2
/-- the shares so far -/
structure Shares (ps m : List Pr) : Prop where
  nd : (m.map (·.1)).Nodup
  mem : ∀ x, x ∈ m.map (·.1) ↔ x ∈ ps.map (·.1)
  val : ∀ x, (getP m x).getD 0 = shr ps x
  len : m.length ≤ ps.length
theorem Shares.nil : Shares [] [] := ⟨List.nodup_nil, fun x => Iff.rfl, fun x => rfl, Nat.le_refl _⟩
theorem Shares.more {ps m : List Pr} {p : Pr} (S : Shares ps m) : Shares (ps ++ [p]) (putP m p.1 ((getP m p.1).getD 0 + p.2)) := by
  refine ⟨putP_nd S.nd, fun x => ?_, fun x => ?_, ?_⟩
  · rw [putP_names, List.map_append, List.mem_append, ← S.mem x]
    split
    · rename_i h
      constructor
      · exact .inl
      · rintro (h2 | h2)
        · exact h2
        · simp at h2
          subst h2
          exact h
    · rw [List.mem_append]
      rfl
  · rw [getP_put, shr_app, shr_cons, shr_nil, Int.add_zero]
    by_cases e : x = p.1
    · subst e
      rw [if_pos rfl, if_pos rfl, ← S.val]
      rfl
    · rw [if_neg e, if_neg (fun q => e q.symm), S.val, Int.add_zero]
  · have h1 := putP_len m p.1 ((getP m p.1).getD 0 + p.2)
    have h2 := S.len
    rw [List.length_append]
    show _ ≤ ps.length + 1
    omega
theorem Shares.keptOf {ps m : List Pr} {ys : List Str} (S : Shares ps m) (hp : ys.Perm (m.map (·.1))) (hs : sortedS ys = true) : Norm (kept ys (shr ps)) ∧ (∀ x, shr (kept ys (shr ps)) x = shr ps x) ∧ ∀ x ∈ (kept ys (shr ps)).map (·.1), x ∈ ps.map (·.1) := by
  have r : Rising ys := rising_of (hp.nodup_iff.mpr S.nd) hs
  refine ⟨kept_norm r, fun x => kept_shr r (fun y hy => shr_out fun h => hy (hp.mem_iff.mpr ((S.mem y).mpr h))) x, fun x hx => ?_⟩
  rw [kept_names] at hx
  exact (S.mem x).mp (hp.mem_iff.mp (List.mem_filter.mp hx).1)
end XS

namespace XS
open PySem PySem.Spec PyProof.Rows L2
/-- the built-in names are not hidden by the module -/
structure Bl (mg : Str → Option Value) : Prop where
  ValueError : mg "ValueError" = none
  len : mg "len" = none
  isinstance : mg "isinstance" = none
  int : mg "int" = none
  str : mg "str" = none
  bool : mg "bool" = none
  list : mg "list" = none
  tuple : mg "tuple" = none
  dict : mg "dict" = none
  set : mg "set" = none
  range : mg "range" = none
  sorted : mg "sorted" = none
  sum : mg "sum" = none
/-- the script's cell, 0 behind its end -/
def cell (ns : List Int) (k : Int) : Int := if k < ns.length then ns.getD k.toNat 0 else 0
def sp_cell_at (K : PySem.W.Frag) : Sp := fun vs H Q _ => ∃ (a : Addr) (ns : List Int) (k : Int), vs = [.ref a, .int k] ∧ 0 ≤ k ∧ SqL K H a (ns.map V.int) ∧ Q (.int (cell ns k)) H
theorem atI_map {ns : List Int} {k : Int} (h0 : 0 ≤ k) (h : k < ns.length) : atI (ns.map V.int) k = some (.int (ns.getD k.toNat 0)) := by
  obtain ⟨j, rfl⟩ := Int.eq_ofNat_of_zero_le h0
  refine atI_nat ?_
  have hj : j < ns.length := by omega
  rw [List.getElem?_map, List.getElem?_eq_getElem hj]
  simp [List.getD, List.getElem?_eq_getElem hj]
end XS
namespace XS
open PySem PySem.Spec PyProof.Rows L2
section
variable {K : PySem.W.Frag} {H : Hp} {Q : VK} {x y : V}
theorem x_isi {a b : String} {r : Bool} (ty : TyX K H x (.type a)) (e : kitB a b = some r) (q : Q (.bl r) H) : rIsi K [x, .ty b] H Q := ⟨x, .ty b, .type a, .type b, r, rfl, .ty b, ty, kit_ty e, q⟩
theorem k_int_str : kitB "int" "str" = some false := by decide +kernel
theorem k_int_int : kitB "int" "int" = some true := by decide +kernel
theorem k_int_bool : kitB "int" "bool" = some false := by decide +kernel
theorem k_str_str : kitB "str" "str" = some true := by decide +kernel
theorem k_str_int : kitB "str" "int" = some false := by decide +kernel
theorem k_tup_str : kitB "tuple" "str" = some false := by decide +kernel
theorem k_tup_int : kitB "tuple" "int" = some false := by decide +kernel
theorem k_tup_tup : kitB "tuple" "tuple" = some true := by decide +kernel
theorem k_tup_lst : kitB "tuple" "list" = some false := by decide +kernel
theorem k_lst_str : kitB "list" "str" = some false := by decide +kernel
theorem k_lst_int : kitB "list" "int" = some false := by decide +kernel
theorem k_lst_tup : kitB "list" "tuple" = some false := by decide +kernel
theorem k_lst_lst : kitB "list" "list" = some true := by decide +kernel
theorem k_bool_bool : kitB "bool" "bool" = some true := by decide +kernel
theorem k_bool_int : kitB "bool" "int" = some true := by decide +kernel
theorem k_bool_str : kitB "bool" "str" = some false := by decide +kernel
theorem x_is_no {b : Bool} (hx : x ≠ .bl b) (q : Q (.bl false) H) : rIsC x (.bl b) H Q := ⟨b, rfl, by rw [decide_eq_false hx]; exact q⟩
theorem x_is_yes {b : Bool} (q : Q (.bl true) H) : rIsC (.bl b) (.bl b) H Q := ⟨b, rfl, by rw [decide_eq_true rfl]; exact q⟩
end
/-- the first item of a sequence of the kind that d tells, by its place -/
theorem atI_get {xs : List V} {i : Nat} {v : V} (h : xs[i]? = some v) : atI xs (i : Int) = some v := atI_nat h
/-- the numbers by a mix -/
def mixN (m : Int) : Int := (m * 48271 + 11) % 2147483647
theorem mixN_b (m : Int) : 0 ≤ mixN m ∧ mixN m < 2147483647 := ⟨Int.emod_nonneg _ (by decide), Int.emod_lt_of_pos _ (by decide)⟩
def bigTurn (s : Int × Int) : Int × Int := (s.1 * 10 + mixN s.2 / 7 % 10, mixN s.2)
def bigRun : Nat → Int × Int → Int × Int
  | 0, s => s
  | n + 1, s => bigTurn (bigRun n s)
def bigBy (c : Int) : Int := if 0 < c % 4 then c / 4 % 19 - 9 else (if c / 4 % 2 = 0 then 1 else -1) * (bigRun (1 + c / 8 % 60).toNat (0, c)).1
theorem bigRun_b (c : Int) : ∀ n, 0 ≤ (bigRun n (0, c)).1 ∧ (bigRun n (0, c)).1 < 10 ^ n
  | 0 => by
    show (0 : Int) ≤ 0 ∧ (0 : Int) < 10 ^ 0
    decide
  | n + 1 => by
    obtain ⟨h1, h2⟩ := bigRun_b c n
    show 0 ≤ (bigRun n (0, c)).1 * 10 + mixN (bigRun n (0, c)).2 / 7 % 10 ∧ (bigRun n (0, c)).1 * 10 + mixN (bigRun n (0, c)).2 / 7 % 10 < 10 ^ (n + 1)
    have h3 : 0 ≤ mixN (bigRun n (0, c)).2 / 7 % 10 := Int.emod_nonneg _ (by decide)
    have h4 : mixN (bigRun n (0, c)).2 / 7 % 10 < 10 := Int.emod_lt_of_pos _ (by decide)
    rw [Int.pow_succ]
    constructor <;> omega
theorem bigBy_b (c : Int) : (bigBy c).natAbs < 10 ^ 60 := by
  unfold bigBy
  split
  · have h3 : 0 ≤ c / 4 % 19 := Int.emod_nonneg _ (by decide)
    have h4 : c / 4 % 19 < 19 := Int.emod_lt_of_pos _ (by decide)
    have : (c / 4 % 19 - 9).natAbs < 20 := by omega
    exact Nat.lt_of_lt_of_le this (by decide)
  · have h3 : 0 ≤ c / 8 % 60 := Int.emod_nonneg _ (by decide)
    have h4 : c / 8 % 60 < 60 := Int.emod_lt_of_pos _ (by decide)
    obtain ⟨h1, h2⟩ := bigRun_b c (1 + c / 8 % 60).toNat
    have h5 : (10 : Int) ^ (1 + c / 8 % 60).toNat ≤ 10 ^ 60 := by
      have : (1 + c / 8 % 60).toNat ≤ 60 := by omega
      have h6 : (10 : Nat) ^ (1 + c / 8 % 60).toNat ≤ 10 ^ 60 := Nat.pow_le_pow_right (by decide) this
      exact_mod_cast h6
    have h7 : (bigRun (1 + c / 8 % 60).toNat (0, c)).1.natAbs < 10 ^ 60 := by omega
    split
    · rw [Int.one_mul]; exact h7
    · rw [Int.neg_one_mul, Int.natAbs_neg]; exact h7
def sp_whole : Sp := fun vs H Q _ => ∃ i : Int, vs = [.int i] ∧ Q (.bl true) H
def sp_big_by : Sp := fun vs H Q _ => ∃ c : Int, vs = [.int c] ∧ ∀ H', Same H H' → Q (.int (bigBy c)) H'
def sp_alike (n : Nat) (K : PySem.W.Frag) : Sp := fun vs H Q _ => ∃ (g e : V) (d : PyData) (k : Nat), vs = [g, e] ∧ n = k + 1 ∧ Dp K H g d ∧ Dp K H e d ∧ Al k d ∧ Q (.bl true) H
def sp_share (K : PySem.W.Frag) : Sp := fun vs H Q _ => ∃ (v : V) (s : Sm) (x : Str), vs = [v, .str x] ∧ Dp K H v (sumD s) ∧ (s.2.map (·.1)).Nodup ∧ Q (.int (shr s.2 x)) H
/-- made's: pairs in any order, fewer than 64 -/
def sp_made (K : PySem.W.Frag) : Sp := fun vs H Q _ => ∃ (n : Int) (v : V) (ps : List Pr), vs = [.int n, v] ∧ Dp K H v (.list (ps.map prT)) ∧ ps.length < 64 ∧
  ∀ t H' out, Same H H' → Norm out → (∀ x, shr out x = shr ps x) → (∀ x ∈ out.map (·.1), x ∈ ps.map (·.1)) → Dp K H' (.ref t) (sumD (n, out)) → Q (.ref t) H'
def sp_law (K : PySem.W.Frag) : Sp := fun vs H Q _ => ∃ (a : Addr) (ns : List Int), vs = [.ref a] ∧ SqL K H a (ns.map V.int) ∧ ns.length ≤ 63 ∧ ∀ H', Q (.bl true) H'
end XS

namespace XS
open PySem PySem.Spec PyProof.Rows L2
/-! ### the four names -/
/-- a text of codes -/
def tx (l : List Nat) : Str := ⟨l.toArray⟩
theorem tx_cps (l : List Nat) : (tx l).cps.toList = l := by simp [tx]
theorem tx_len (l : List Nat) : (tx l).length = l.length := by show l.toArray.size = l.length; simp
theorem tx_inj {a b : List Nat} (h : tx a = tx b) : a = b := by have := congrArg (fun s : Str => s.cps.toList) h; simpa [tx] using this
theorem tx_app (a b : List Nat) : tx a ++ tx b = tx (a ++ b) := by
  refine str_ext ?_
  show (a.toArray ++ b.toArray).toList = _
  simp [tx]
theorem tx_cut0 (l : List Nat) (k : Nat) : cutS (tx l) none (some (k : Int)) = tx (l.take k) := by
  refine str_ext ?_
  show (((tx l).cps.toList.drop _).take _).toArray.toList = _
  rw [tx_cps, tx_cps, tx_len, HT.sIx_none, HT.sIx_nat]
  simp
theorem tx_cut1 (l : List Nat) (k : Nat) : cutS (tx l) (some (k : Int)) none = tx (l.drop k) := by
  refine str_ext ?_
  show (((tx l).cps.toList.drop _).take _).toArray.toList = _
  rw [tx_cps, tx_cps, tx_len, HT.sIx_none, HT.sIx_nat]
  simp
  rcases Nat.le_total k l.length with h | h
  · rw [Nat.min_eq_left h, List.take_of_length_le (by rw [List.length_drop]; exact Nat.le_refl _)]
  · rw [Nat.min_eq_right h, List.drop_eq_nil_of_le h]
    simp
theorem tx_rep (l : List Nat) (n : Nat) : repS (tx l) n = tx (List.replicate n l).flatten := by
  unfold repS
  rw [tx_cps]
  rfl
def abc : Str := "abcdefghijklmnopqrstuvwxyz"
theorem abc_cps : abc.cps.toList = (List.range 26).map (97 + ·) := by decide +kernel
theorem abc_len : abc.length = 26 := by decide +kernel
/-- the code of the letter by a number -/
def lc (n : Int) : Nat := 97 + (n % 26).toNat
theorem lc_b (n : Int) : 97 ≤ lc n ∧ lc n ≤ 122 := by
  have h1 : 0 ≤ n % 26 := Int.emod_nonneg _ (by decide)
  have h2 : n % 26 < 26 := Int.emod_lt_of_pos _ (by decide)
  unfold lc
  omega
theorem abc_at (n : Int) : atI abc.cps.toList (n % 26) = some (lc n) := by
  have h1 : 0 ≤ n % 26 := Int.emod_nonneg _ (by decide)
  have h2 : n % 26 < 26 := Int.emod_lt_of_pos _ (by decide)
  unfold lc
  obtain ⟨j, hj⟩ := Int.eq_ofNat_of_zero_le h1
  rw [hj]
  refine atI_nat ?_
  rw [abc_cps, List.getElem?_map, List.getElem?_range (by omega)]
  simp
/-- small letters, 1 to 8 -/
def Word (l : List Nat) : Prop := 1 ≤ l.length ∧ l.length ≤ 8 ∧ ∀ c ∈ l, 97 ≤ c ∧ c ≤ 122
def wordRun (c : Int) : Nat → List Nat × Int
  | 0 => ([], c)
  | n + 1 => ((wordRun c n).1 ++ [lc (mixN (wordRun c n).2 / 7)], mixN (wordRun c n).2)
theorem wordRun_len (c : Int) : ∀ n, (wordRun c n).1.length = n
  | 0 => rfl
  | n + 1 => by
    show ((wordRun c n).1 ++ [_]).length = n + 1
    rw [List.length_append, wordRun_len c n]
    rfl
theorem wordRun_abc (c : Int) : ∀ n, ∀ x ∈ (wordRun c n).1, 97 ≤ x ∧ x ≤ 122
  | 0, _, h => by cases h
  | n + 1, x, h => by
    rcases List.mem_append.mp h with h | h
    · exact wordRun_abc c n x h
    · simp at h
      subst h
      exact lc_b _
def sizeBy (c : Int) : Nat := (1 + c % 8).toNat
theorem sizeBy_b (c : Int) : 1 ≤ sizeBy c ∧ sizeBy c ≤ 8 ∧ (sizeBy c : Int) = 1 + c % 8 := by
  have h1 : 0 ≤ c % 8 := Int.emod_nonneg _ (by decide)
  have h2 : c % 8 < 8 := Int.emod_lt_of_pos _ (by decide)
  unfold sizeBy
  omega
def wordBy (c : Int) : List Nat := (wordRun c (sizeBy c)).1
theorem wordBy_ok (c : Int) : Word (wordBy c) := by
  have h := sizeBy_b c
  refine ⟨?_, ?_, wordRun_abc c _⟩ <;> (unfold wordBy; rw [wordRun_len]; omega)
theorem wordBy_len (c : Int) : (wordBy c).length = sizeBy c := wordRun_len c _
/-- the usual names -/
def usual : List Str := ["new", "k", "t", "x", "y", "z", "step", "size", "bound", "some", "and", "above", "nought", "goes", "not", "or", "all", "far", "low", "high", "name", "newone", "number", "it", "lined"]
theorem usual_len : usual.length = 25 := rfl
theorem usual_nd : usual.Nodup := by decide +kernel
def wordB (l : List Nat) : Bool := decide (1 ≤ l.length) && decide (l.length ≤ 8) && l.all fun c => decide (97 ≤ c) && decide (c ≤ 122)
theorem word_of {l : List Nat} (h : wordB l = true) : Word l := by
  unfold wordB at h
  simp only [Bool.and_eq_true, decide_eq_true_eq, List.all_eq_true] at h
  exact ⟨h.1.1, h.1.2, h.2⟩
theorem usual_all : (usual.all fun s => wordB s.cps.toList) = true := by decide +kernel
theorem usual_ok {s : Str} (h : s ∈ usual) : Word s.cps.toList := word_of (List.all_eq_true.mp usual_all s h)
def offs : Nat → Int
  | 0 => 0 | 1 => 7 | 2 => 12 | _ => 18
def spotBy (c : Int) : Nat := (c / 24 % (1 + c % 8)).toNat
theorem spotBy_b (c : Int) : spotBy c < sizeBy c ∧ (spotBy c : Int) = c / 24 % (1 + c % 8) := by
  have h1 : 0 ≤ c % 8 := Int.emod_nonneg _ (by decide)
  have h3 : 0 ≤ c / 24 % (1 + c % 8) := Int.emod_nonneg _ (by omega)
  have h4 : c / 24 % (1 + c % 8) < 1 + c % 8 := Int.emod_lt_of_pos _ (by omega)
  unfold spotBy sizeBy
  omega
def nameBy (c : Int) (k : Nat) : Str :=
  if c / 8 % 3 = 2 then tx (List.replicate (1 + (k + c / 24) % 8).toNat ((wordBy c).take 1)).flatten
  else if c / 8 % 9 = 1 ∨ c / 8 % 9 = 4 ∨ c / 8 % 9 = 7 then usual.getD ((c / 72 + offs k) % 25).toNat ""
  else tx ((wordBy c).take (spotBy c) ++ [lc (c / 192 + 7 * k)] ++ (wordBy c).drop (spotBy c + 1))
def namesBy (c : Int) : List Str := (List.range 4).map (nameBy c)
theorem namesBy_eq (c : Int) : namesBy c = [nameBy c 0, nameBy c 1, nameBy c 2, nameBy c 3] := rfl
theorem namesBy_len (c : Int) : (namesBy c).length = 4 := rfl
theorem usualAt (c : Int) (k : Nat) : ((c / 72 + offs k) % 25).toNat < 25 := by
  have h1 : 0 ≤ (c / 72 + offs k) % 25 := Int.emod_nonneg _ (by decide)
  have h2 : (c / 72 + offs k) % 25 < 25 := Int.emod_lt_of_pos _ (by decide)
  omega
theorem take1_eq (c : Int) : ∃ a, (wordBy c).take 1 = [a] ∧ 97 ≤ a ∧ a ≤ 122 := by
  have h := wordBy_ok c
  cases e : wordBy c with
  | nil => have := h.1; rw [e] at this; simp at this
  | cons a r =>
    refine ⟨a, rfl, h.2.2 a (by rw [e]; exact List.mem_cons_self ..)⟩
theorem flat_one (n a : Nat) : (List.replicate n [a]).flatten = List.replicate n a := by
  induction n with
  | zero => rfl
  | succ n ih => rw [List.replicate_succ, List.flatten_cons, ih]; rfl
theorem nameBy_ok (c : Int) (k : Nat) : Word (nameBy c k).cps.toList := by
  unfold nameBy
  split
  · obtain ⟨a, e, ha⟩ := take1_eq c
    have h1 : 0 ≤ (k + c / 24) % 8 := Int.emod_nonneg _ (by decide)
    have h2 : (k + c / 24) % 8 < 8 := Int.emod_lt_of_pos _ (by decide)
    rw [tx_cps, e, flat_one]
    refine ⟨?_, ?_, fun x hx => ?_⟩
    · rw [List.length_replicate]; omega
    · rw [List.length_replicate]; omega
    · rw [(List.mem_replicate.mp hx).2]; exact ha
  · split
    · rw [List.getD_eq_getElem?_getD, List.getElem?_eq_getElem (by rw [usual_len]; exact usualAt c k)]
      exact usual_ok (List.getElem_mem _)
    · have h := wordBy_ok c
      have hs := spotBy_b c
      have hl := wordBy_len c
      have hz := sizeBy_b c
      rw [tx_cps]
      refine ⟨?_, ?_, fun x hx => ?_⟩
      · rw [List.length_append, List.length_append]; simp; omega
      · rw [List.length_append, List.length_append, List.length_take, List.length_drop]; simp; omega
      · rcases List.mem_append.mp hx with hx | hx
        · rcases List.mem_append.mp hx with hx | hx
          · exact h.2.2 x (List.mem_of_mem_take hx)
          · simp at hx; subst hx; exact lc_b _
        · exact h.2.2 x (List.mem_of_mem_drop hx)
theorem nd_inj {α : Type} {l : List α} (nd : l.Nodup) {i j : Nat} (hi : i < l.length) (hj : j < l.length) (e : l[i] = l[j]) : i = j := by
  rcases Nat.lt_trichotomy i j with h | h | h
  · exact absurd e (List.pairwise_iff_getElem.mp nd i j hi hj h)
  · exact h
  · exact absurd e.symm (List.pairwise_iff_getElem.mp nd j i hj hi h)
theorem nameBy_ne (c : Int) {j k : Nat} (hj : j < k) (hk : k < 4) : nameBy c j ≠ nameBy c k := by
  intro e
  unfold nameBy at e
  by_cases h1 : c / 8 % 3 = 2
  · rw [if_pos h1, if_pos h1] at e
    obtain ⟨a, ea, ha⟩ := take1_eq c
    rw [ea, flat_one, flat_one] at e
    have := congrArg List.length (tx_inj e)
    rw [List.length_replicate, List.length_replicate] at this
    omega
  · rw [if_neg h1, if_neg h1] at e
    by_cases h2 : c / 8 % 9 = 1 ∨ c / 8 % 9 = 4 ∨ c / 8 % 9 = 7
    · rw [if_pos h2, if_pos h2] at e
      have a1 := usualAt c j
      have a2 := usualAt c k
      rw [List.getD_eq_getElem?_getD, List.getD_eq_getElem?_getD, List.getElem?_eq_getElem (by rw [usual_len]; exact a1), List.getElem?_eq_getElem (by rw [usual_len]; exact a2)] at e
      have := nd_inj usual_nd _ _ e
      have h3 : k = 1 ∨ k = 2 ∨ k = 3 := by omega
      have h4 : j = 0 ∨ j = 1 ∨ j = 2 := by omega
      rcases h3 with rfl | rfl | rfl <;> rcases h4 with rfl | rfl | rfl <;> first | omega | (simp only [offs] at this; omega)
    · rw [if_neg h2, if_neg h2] at e
      have e := tx_inj e
      have hl : ((wordBy c).take (spotBy c)).length = ((wordBy c).take (spotBy c)).length := rfl
      rw [List.append_assoc, List.append_assoc] at e
      have := (List.append_inj e rfl).2
      simp only [List.cons_append, List.nil_append, List.cons.injEq] at this
      have h5 := this.1
      unfold lc at h5
      have b1 : 0 ≤ (c / 192 + 7 * (j : Int)) % 26 := Int.emod_nonneg _ (by decide)
      have b2 : 0 ≤ (c / 192 + 7 * (k : Int)) % 26 := Int.emod_nonneg _ (by decide)
      have h6 : (c / 192 + 7 * (j : Int)) % 26 = (c / 192 + 7 * (k : Int)) % 26 := by omega
      omega
theorem namesBy_nd (c : Int) : (namesBy c).Nodup := by
  rw [namesBy_eq]
  simp only [List.nodup_cons, List.mem_cons, List.not_mem_nil, or_false, not_or, not_false_eq_true, List.nodup_nil, and_true, true_and]
  refine ⟨⟨nameBy_ne c (by decide) (by decide), nameBy_ne c (by decide) (by decide), nameBy_ne c (by decide) (by decide)⟩, ⟨nameBy_ne c (by decide) (by decide), nameBy_ne c (by decide) (by decide)⟩, nameBy_ne c (by decide) (by decide)⟩
theorem namesBy_word {c : Int} {x : Str} (h : x ∈ namesBy c) : Word x.cps.toList := by
  unfold namesBy at h
  obtain ⟨k, _, rfl⟩ := List.mem_map.mp h
  exact nameBy_ok c k
def sp_names_by : Sp := fun vs H Q _ => ∃ c : Int, vs = [.int c] ∧ ∀ l H', H l = none → Same H H' → H' l = some (.lst ((namesBy c).map V.str)) → Q (.ref l) H'
theorem names_at {c n : Int} (h1 : 0 ≤ n) (h2 : n < 4) : ∃ x, atI ((namesBy c).map V.str) n = some (.str x) ∧ x ∈ namesBy c := by
  have h : n = 0 ∨ n = 1 ∨ n = 2 ∨ n = 3 := by omega
  rcases h with rfl | rfl | rfl | rfl
  · exact ⟨nameBy c 0, atI_get (i := 0) rfl, by rw [namesBy_eq]; simp⟩
  · exact ⟨nameBy c 1, atI_get (i := 1) rfl, by rw [namesBy_eq]; simp⟩
  · exact ⟨nameBy c 2, atI_get (i := 2) rfl, by rw [namesBy_eq]; simp⟩
  · exact ⟨nameBy c 3, atI_get (i := 3) rfl, by rw [namesBy_eq]; simp⟩
theorem im_pairs (ps : List Pr) : ∀ d ∈ ps.map prT, Im d := fun d hd => by
  obtain ⟨p, _, rfl⟩ := List.mem_map.mp hd
  exact im_pair p
theorem pair_at {K : PySem.W.Frag} {H : Hp} {us : List V} {ps : List Pr} {i : Nat} {p : Pr} {u : V} (d : DpAll K H us (ps.map prT)) (hp : ps[i]? = some p) (hu : us[i]? = some u) : Dp K H u (prT p) := by
  obtain ⟨u', h1, h2⟩ := d.get (i := i) (d := prT p) (by rw [List.getElem?_map, hp]; rfl)
  rw [hu] at h1
  cases h1
  exact h2
theorem range_getD {α : Type} (ys : List α) (d : α) : (List.range ys.length).map (fun k => ys.getD k d) = ys := by
  refine List.ext_getElem? fun i => ?_
  rw [List.getElem?_map]
  by_cases h : i < ys.length
  · rw [List.getElem?_range h, List.getElem?_eq_getElem h]
    show some (ys.getD i d) = _
    rw [List.getD_eq_getElem?_getD, List.getElem?_eq_getElem h]
    rfl
  · rw [List.getElem?_eq_none (by rw [List.length_range]; omega), List.getElem?_eq_none (by omega)]
    rfl
theorem range_pick {α β : Type} (ys : List α) (d : α) {n : Nat} (h : ys.length = n) (f : α → Bool) (g : α → β) : ((List.range n).filter fun k => f (ys.getD k d)).map (fun k => g (ys.getD k d)) = (ys.filter f).map g := by
  subst h
  conv => rhs; rw [← range_getD ys d]
  rw [List.filter_map, List.map_map]
  rfl
end XS

namespace XS
open PySem PySem.Spec PyProof.Rows L2
/-! ### the rules that name the written part, with it as a letter -/
section
variable {X : Cx} {e e2 l tg : Expr} {es : List Expr} {te tl ta to : TE} {t : TA} {p pos : Pos}
theorem ix_listK (K : PySem.W.Frag) (hK : X.K = K := by rfl) : IxR X (rIxL K) := by subst hK; exact ix_list
theorem ix_tupK (K : PySem.W.Frag) (hK : X.K = K := by rfl) : IxR X (rIxT K) := by subst hK; exact ix_tup
theorem ix_seqK (K : PySem.W.Frag) (hK : X.K = K := by rfl) : IxR X (rIx K) := by subst hK; exact ix_seq
theorem sl_listK (K : PySem.W.Frag) (hK : X.K = K := by rfl) : SlR X (rSlL K) := by subst hK; exact sl_list
theorem sl_tupK (K : PySem.W.Frag) (hK : X.K = K := by rfl) : SlR X (rSlA K) := by subst hK; exact sl_tupA
theorem pi_listK (K : PySem.W.Frag) (hl : PE X l tl) (hK : X.K = K := by rfl) : PI X tg l (iList K tl) := by subst hK; exact pi_list hl
theorem pi_tupK (K : PySem.W.Frag) (hl : PE X l tl) (hK : X.K = K := by rfl) : PI X tg l (iTup K tl) := by subst hK; exact pi_tup hl
theorem pg_tupK (K : PySem.W.Frag) {k n : Nat} {g : TGs} (hc : X.calm = true) (h : PGs X es g) (hK : X.K = K := by rfl)
    (hn : (assignEach es X.env).length = n := by rfl) (hst : (assignEach es X.env).findIdx? (·.1) = none := by rfl) : PG X (.Tuple es k pos) (gTup K n g) := by subst hK; exact pg_tup hc h hn hst
def rLenK (K : PySem.W.Frag) : List V → Hp → VK → Prop := fun xs H Q => ∃ p ys, xs = [.ref p] ∧ (SqL K H p ys ∨ SqT K H p ys) ∧ Q (.int ys.length) H
def rListK (K : PySem.W.Frag) : List V → Hp → VK → Prop := fun xs H Q => ∃ p ys, xs = [.ref p] ∧ (SqL K H p ys ∨ SqT K H p ys) ∧ ∀ l, H l = none → Q (.ref l) (upd H l (.lst ys))
theorem call_isiK (K : PySem.W.Frag) (hK : X.K = K := by rfl) : CallR X (.builtin "isinstance") (rIsi K) := by subst hK; exact call_isi
theorem cr_sumK (K : PySem.W.Frag) (hc : X.calm = true) (hK : X.K = K := by rfl) : CallR X (.builtin "sum") (rSum K) := by subst hK; exact cr_sum hc
theorem cr_sortedSK (K : PySem.W.Frag) (hK : X.K = K := by rfl) : CallR X (.builtin "sorted") (rSortedS K) := by subst hK; exact cr_sortedS
theorem call_lenK (K : PySem.W.Frag) (hK : X.K = K := by rfl) : CallR X (.builtin "len") (rLenK K) := by subst hK; exact call_len_seq
theorem call_listK (K : PySem.W.Frag) (hK : X.K = K := by rfl) : CallR X (.type "list") (rListK K) := by subst hK; exact call_list_of
theorem op_inK (K : PySem.W.Frag) (hK : X.K = K := by rfl) : OpR X (compareOp .In) (rIn K false) := by subst hK; exact op_in_seq
theorem op_notInK (K : PySem.W.Frag) (hK : X.K = K := by rfl) : OpR X (compareOp .NotIn) (rIn K true) := by subst hK; exact op_notIn_seq
theorem op_catK (K : PySem.W.Frag) (hK : X.K = K := by rfl) : OpR X (binaryOp .Add) (rCatA K) := by subst hK; exact op_catA
theorem op_repK (K : PySem.W.Frag) (hK : X.K = K := by rfl) : OpR X (binaryOp .Mult) (rRepT K) := by subst hK; exact op_repT
theorem pa_starK (K : PySem.W.Frag) (he : PE X e te) (hr : PA X es t) (hK : X.K = K := by rfl) (hs : starEach (.Starred e p :: es) X.env = (true, eval e X.env) :: starEach es X.env := by rfl) : PA X (.Starred e p :: es) (StX.tStar K te t) := by subst hK; exact StX.pa_star he hr hs
/-- tuple(xs) of a list or a tuple -/
def rTupK (K : PySem.W.Frag) : List V → Hp → VK → Prop := fun xs H Q => ∃ p ys, xs = [.ref p] ∧ ((SqL K H p ys ∧ ∀ l, H l = none → Q (.ref l) (upd H l (.tup ys))) ∨ (SqT K H p ys ∧ Q (.ref p) H))
theorem call_tupK (K : PySem.W.Frag) (hK : X.K = K := by rfl) : CallR X (.type "tuple") (rTupK K) := by subst hK; exact call_tuple_of
end
section
variable {K : PySem.W.Frag} {H : Hp} {Q : VK}
theorem x_lenL {p : Addr} {ys : List V} (h : SqL K H p ys) (q : Q (.int ys.length) H) : rLenK K [.ref p] H Q := ⟨p, ys, rfl, .inl h, q⟩
theorem x_lenT {p : Addr} {ys : List V} (h : SqT K H p ys) (q : Q (.int ys.length) H) : rLenK K [.ref p] H Q := ⟨p, ys, rfl, .inr h, q⟩
theorem x_listL {p : Addr} {ys : List V} (h : SqL K H p ys) (q : ∀ l H1, H l = none → Same H H1 → H1 l = some (.lst ys) → Q (.ref l) H1) : rListK K [.ref p] H Q := ⟨p, ys, rfl, .inl h, fun l hl => q l _ hl (same_upd hl) upd_same⟩
theorem x_tupL {p : Addr} {ys : List V} (h : SqL K H p ys) (q : ∀ l H1, H l = none → Same H H1 → H1 l = some (.tup ys) → Q (.ref l) H1) : rTupK K [.ref p] H Q := ⟨p, ys, rfl, .inl ⟨h, fun l hl => q l _ hl (same_upd hl) upd_same⟩⟩
theorem x_sum {p : Addr} {ns : List Int} (h : SqL K H p (ns.map V.int)) (q : Q (.int ns.sum) H) : rSum K [.ref p] H Q := ⟨p, ns, rfl, h, q⟩
theorem x_sortS {p : Addr} {xs : List Str} (h : SqL K H p (xs.map V.str)) (hz : xs.length < 64) (q : ∀ ys l H1, ys.Perm xs → sortedS ys = true → H l = none → Same H H1 → H1 l = some (.lst (ys.map V.str)) → Q (.ref l) H1) : rSortedS K [.ref p] H Q :=
  ⟨p, xs, rfl, h, hz, fun ys l h1 h2 h3 => q ys l _ h1 h2 h3 (same_upd h3) upd_same⟩
end
/-! ### data that == looks at -/
theorem plainAll {xs : List PyData} (h : ∀ d ∈ xs, d.plain = true) : PyData.plainAll xs = true := by
  induction xs with
  | nil => rfl
  | cons x xs ih =>
    have h1 := h x (List.mem_cons_self ..)
    have h2 := ih fun d hd => h d (List.mem_cons_of_mem _ hd)
    simp [PyData.plainAll, h1, h2]
theorem depthAll_le {xs : List PyData} {n : Nat} (h : ∀ d ∈ xs, d.depth ≤ n) : PyData.depthAll xs ≤ n := by
  induction xs with
  | nil => simp [PyData.depthAll]
  | cons x xs ih =>
    have h1 := h x (List.mem_cons_self ..)
    have h2 := ih fun d hd => h d (List.mem_cons_of_mem _ hd)
    simp only [PyData.depthAll]
    omega
/-- without dicts, at most 64 deep -/
structure Flt (d : PyData) : Prop where
  pl : d.plain = true
  dp : d.depth ≤ 64
theorem al_lay {n : Nat} {d : PyData} (h : Al n d) : d.plain = true ∧ d.depth ≤ n + 1 := by
  induction h with
  | int i => exact ⟨rfl, by simp [PyData.depth]⟩
  | str x => exact ⟨rfl, by simp [PyData.depth]⟩
  | tru => exact ⟨rfl, by simp [PyData.depth]⟩
  | non => exact ⟨rfl, by simp [PyData.depth]⟩
  | tup _ _ ih =>
    have h1 := plainAll fun d hd => (ih d hd).1
    have h2 := depthAll_le fun d hd => (ih d hd).2
    refine ⟨by simpa [PyData.plain] using h1, ?_⟩
    simp only [PyData.depth]
    omega
  | lst _ _ ih =>
    have h1 := plainAll fun d hd => (ih d hd).1
    have h2 := depthAll_le fun d hd => (ih d hd).2
    refine ⟨by simpa [PyData.plain] using h1, ?_⟩
    simp only [PyData.depth]
    omega
theorem al_flt {n : Nat} {d : PyData} (h : Al n d) (hn : n ≤ 60) : Flt d := ⟨(al_lay h).1, by have := (al_lay h).2; omega⟩
theorem al_pairs {n : Nat} {ps : List Pr} (h : ps.length ≤ 1000) : Al (n + 2) (.list (ps.map prT)) := .lst (fun d hd => by
  obtain ⟨p, _, rfl⟩ := List.mem_map.mp hd
  exact al_pair p) (by rw [List.length_map]; exact h)
def rEqP (K : PySem.W.Frag) : R2 := fun x y H Q => ∃ d e, Dp K H x d ∧ Dp K H y e ∧ Flt d ∧ Flt e ∧ Q (.bl (PyData.eqv d e)) H
def rNeP (K : PySem.W.Frag) : R2 := fun x y H Q => ∃ d e, Dp K H x d ∧ Dp K H y e ∧ Flt d ∧ Flt e ∧ Q (.bl (!PyData.eqv d e)) H
theorem op_eqK {X : Cx} (K : PySem.W.Frag) (hu : X.A.units + 64 < cLine) (hK : X.K = K := by rfl) : OpR X (compareOp .Eq) (rEqP K) := by
  subst hK
  intro pins s σ H x y v u Q I rx ry h
  obtain ⟨d, e, hd, he, sd, se, q⟩ := h
  obtain ⟨as, r1⟩ := Dp.reads I d x v hd rx
  obtain ⟨bs, r2⟩ := Dp.reads I e y u he ry
  exact SeqAt.eq_plain r1 r2 sd.pl se.pl (by have := sd.dp; have := se.dp; omega) ⟨.bl _, H, I, rfl, q⟩
theorem op_neK {X : Cx} (K : PySem.W.Frag) (hu : X.A.units + 64 < cLine) (hK : X.K = K := by rfl) : OpR X (compareOp .NotEq) (rNeP K) := by
  subst hK
  intro pins s σ H x y v u Q I rx ry h
  obtain ⟨d, e, hd, he, sd, se, q⟩ := h
  obtain ⟨as, r1⟩ := Dp.reads I d x v hd rx
  obtain ⟨bs, r2⟩ := Dp.reads I e y u he ry
  exact SeqAt.ne_plain r1 r2 sd.pl se.pl (by have := sd.dp; have := se.dp; omega) ⟨.bl _, H, I, rfl, q⟩
section
variable {K : PySem.W.Frag} {H : Hp} {Q : VK} {x y : V}
theorem x_eqD {d e : PyData} (h1 : Dp K H x d) (h2 : Dp K H y e) (a1 : Flt d) (a2 : Flt e) (q : Q (.bl (PyData.eqv d e)) H) : rEqP K x y H Q := ⟨d, e, h1, h2, a1, a2, q⟩
theorem x_neD {d e : PyData} (h1 : Dp K H x d) (h2 : Dp K H y e) (a1 : Flt d) (a2 : Flt e) (q : Q (.bl (!PyData.eqv d e)) H) : rNeP K x y H Q := ⟨d, e, h1, h2, a1, a2, q⟩
end
theorem flt_nil : Flt (.list []) := ⟨rfl, by simp [PyData.depth, PyData.depthAll]⟩
theorem x_cut {t u : TS} {D : Ends} {σ : L2.St} {H : Hp} (Mid : L2.St → Hp → Prop) (h1 : t { D with nx := Mid } σ H) (h2 : ∀ σ' H', Mid σ' H' → u D σ' H') : Evl.tCut t u D σ H := ⟨Mid, h1, h2⟩
theorem eqv_nil (ds : List PyData) : PyData.eqv (.list ds) (.list []) = ds.isEmpty := by
  cases ds <;> simp [PyData.eqv, PyData.eqvAll]
section
variable {K : PySem.W.Frag} {σ : L2.St} {H : Hp} {te : TE} {t : TA} {k : List V → Hp → Prop}
theorem x_star (h : te σ H fun x H1 => ∃ p xs, x = V.ref p ∧ (SqT K H1 p xs ∨ SqL K H1 p xs) ∧ t σ H1 fun ys H2 => k (xs ++ ys) H2) : StX.tStar K te t σ H k := h
end
end XS

namespace XS
open PySem PySem.Spec PyProof.Rows L2 L2H
/-! ### isinstance of an error that the context bears -/
theorem call_isP {X : Cx} {a D : Addr} {oe : Obj} (hp : (a, oe) ∈ X.pn) (C : ExcC X.K D) (hz : Zc (.ref D) none oe) (hf : ∃ vs, oe.data = .fields vs) : CallR X (.builtin "isinstance") (rIsE X.K D a) := by
  intro pins s σ H xs us Q I r h
  obtain ⟨c, cv, b, rfl, hcv, e, q⟩ := h
  obtain ⟨u1, u2, rfl, r1, r2⟩ := vals2 r
  obtain rfl : u1 = Value.ref a := r1
  have ec := hcv _ r2
  subst ec
  have hget := (I.pin (a, oe) (List.mem_append_left _ hp)).1
  have J : PySem.W.InstAt s.heap a oe D none := by
    obtain ⟨vs, hv⟩ := hf
    cases oe with
    | mk oc od oda osl =>
      obtain ⟨z1, z2⟩ := hz
      simp only at z1 z2 hv
      subst z1 z2 hv
      exact ⟨hget, rfl, rfl, trivial⟩
  exact PySem.W.kia_one (PySem.W.handS_kitx_exc C.hg C.hk C.hs C.hd C.ha C.hn C.ht C.hm) I.kIn J e (fun z => nomatch z) fun tk => ⟨.bl b, H, I.kept (t' := tk) fun _ _ z => z, rfl, q⟩
/-! ### a def that takes the error that is handled: nothing leaves it -/
structure FnP (P : Program) (w : World) (K : PySem.W.Frag) (mg : Str → Option Value) (base : Heap) (k : Nat) (f : Addr) (fd : FuncData) (ps : List Str) (sp : Addr → Addr → Sp) : Prop where
  len : ∀ a D vs H Q E, sp a D vs H Q E → vs.length = ps.length
  run : ∀ (A : Around) (outer : List Env) (s : Shared) (H : Hp) (args : Args) (us : List Value) (vs : List V) (Q : VK) (p : Addr × Obj) (D : Addr), RoomH k A → PinOk outer H s p → Zc (.ref D) none p.2 → (∃ vs, p.2.data = .fields vs) →
    Env0 P w K mg base A outer s H → BindsTo s fd args (ps.zip us) → Vals vs us → sp p.1 D vs H Q E0 → codeAny (model P w) A (.call (.ref f) args) (CR CX0 outer P w H s Q E0) s
theorem fnP_of {P : Program} {w : World} {K : PySem.W.Frag} {mg : Str → Option Value} {base : Heap} {k : Nat} {x qual : Str} {st : Stmt} {f : Addr} {fd : FuncData} {N ps : List Str} {sp : Addr → Addr → Sp} (F : Fun K x qual st f fd) (S : FnScope N ps (defScope st))
    (len : ∀ a D vs H Q E, sp a D vs H Q E → vs.length = ps.length)
    (hbody : ∀ (cdv : Value) (A : Around) (outer : List Env) (s : Shared) (H : Hp) (vs : List V) (Q : VK) (p : Addr × Obj) (D : Addr), Zc (.ref D) none p.2 → (∃ vs, p.2.data = .fields vs) → RoomH k (A.deeper (envOfC qual (defScope st) s.heap.objs.size f cdv)) → sp p.1 D vs H Q E0 →
      ∃ t, PSs (cxH CX0 P w K mg base N qual (defScope st) f cdv A outer s H E0 p) (defBody st) t ∧ t { nx := fun _ H' => Q .non H', rt := Q } (L2.start N vs) H) : FnP P w K mg base (k + 1) f fd ps sp := by
  obtain ⟨oc, od, kV, doc, pm, an, cdv, ct, osl, rfl, lk, hcd⟩ := F.ex
  refine ⟨len, fun A outer s H args us vs Q p D hr hpin hz hf e0 hb r hsp => ?_⟩
  have KX : K.In s.heap := e0.mod.kin.keeps fun b o e => (e0.bs b o e).1
  have lim : s.heap.NoLimit := e0.mod.nolimit.keeps fun b o e => (e0.bs b o e).1
  refine codeAny_call_function hr.depth (KX _ _ lk) rfl S.co S.gen rfl (PySem.W.codeRec_of KX hcd) (hb _ _ _ _ ?_)
  refine wpAny_newFunctionEnv_cells S.kind (fun y hy => ?_) fun env he s1 x => ?_
  · rcases S.par y.1 (List.of_mem_zip hy).1 with c | c
    · exact .inl c
    · exact .inr ⟨c, PySem.W.cellsFrom_some _ _ _ (.inl c)⟩
  subst he
  refine ⟨lim.keeps x.toInCall.keep, codeAny_func ?_⟩
  obtain ⟨t, ht, hq⟩ := hbody cdv A outer s H vs Q p D hz hf (hr.deeper _) hsp
  have I := inv_startH (CX := CX0) (P := P) (w := w) (K := K) (mg := mg) (base := base) (E := E0) S hpin e0 (len _ _ _ _ _ _ hsp) r x
  refine wpAny_mono (ht.run [] s1 _ H _ I hq) (fun fl s' hs => ?_) fun e s' hs => hs
  cases fl with
  | ret u =>
    obtain ⟨v, σ', H', J, rv, z⟩ := hs
    exact ⟨v, H', J.os, J.bare, J.base, J.hok, rv, z⟩
  | next =>
    obtain ⟨σ', H', J, z⟩ := hs
    exact ⟨V.non, H', J.os, J.bare, J.base, J.hok, rfl, z⟩
  | brk =>
    obtain ⟨_, _, _, z⟩ := hs
    exact False.elim z
  | cont =>
    obtain ⟨_, _, _, z⟩ := hs
    exact False.elim z
def DefP (P : Program) (w : World) (K : PySem.W.Frag) (mg : Str → Option Value) (base : Heap) (k : Nat) (nm : Str) (ps : List Str) (sp : Addr → Addr → Sp) : Prop :=
  ∃ f fd, FnP P w K mg base k f fd ps sp ∧ mg nm = some (.ref f) ∧ PySem.W.keepIn K (.ref f) = true ∧ Binds K fd ps []
theorem FunAt.okP {P : Program} {w : World} {K : PySem.W.Frag} {mg : Str → Option Value} {base : Heap} {k : Nat} {nm : Str} {st : Stmt} {N ps : List Str} {sp : Addr → Addr → Sp} (F : FunAt K mg nm st ps) (S : FnScope N ps (defScope st))
    (len : ∀ a D vs H Q E, sp a D vs H Q E → vs.length = ps.length)
    (hbody : ∀ (f : Addr) (cdv : Value) (A : Around) (outer : List Env) (s : Shared) (H : Hp) (vs : List V) (Q : VK) (p : Addr × Obj) (D : Addr), Zc (.ref D) none p.2 → (∃ vs, p.2.data = .fields vs) → RoomH k (A.deeper (envOfC nm (defScope st) s.heap.objs.size f cdv)) → sp p.1 D vs H Q E0 →
      ∃ t, PSs (cxH CX0 P w K mg base N nm (defScope st) f cdv A outer s H E0 p) (defBody st) t ∧ t { nx := fun _ H' => Q .non H', rt := Q } (L2.start N vs) H) : DefP P w K mg base (k + 1) nm ps sp := by
  obtain ⟨f, fd, F, a, b⟩ := F
  exact ⟨f, fd, fnP_of F S len (hbody f), a, F.kp, b⟩
/-- its call in the suite: the error at a, of the class cls, without a dict -/
def tCallP (a : Addr) (cls : Value) (d : Option Addr) (sp : Addr → Addr → Sp) (t : TA) : TE := fun σ H Q => t σ H fun vs H1 => ∃ D, cls = .ref D ∧ d = none ∧ sp a D vs H1 Q E0
section
variable {X : Cx} {k : Nat} {ps : List Str} {sp : Addr → Addr → Sp} {x : Str} {q pos : Pos} {e : Expr} {es : List Expr} {t : TA} {a : Addr} {oe : Obj} {cls : Value} {d : Option Addr}
theorem pe_callP (D : DefP X.prog X.w X.K X.mg X.base k x ps sp) (hp : (a, oe) ∈ X.pn) (hz : Zc cls d oe) (hf : ∃ vs, oe.data = .fields vs) (hr : RoomH k X.A) (hg : Gl X x) (ha : PA X (e :: es) t) (hdb : (x == ("__debug__" : Str)) = false := by decide)
    (he : starEach (e :: es) X.env = (false, eval e X.env) :: starEach es X.env := by rfl) (hpl : (backTo pos (starEach es X.env)).any (·.1) = false := by rfl) : PE X (.Call (.Name x q) (e :: es) [] pos) (tCallP a cls d sp t) := by
  obtain ⟨f, fd, F, hm, hk, hb⟩ := D
  refine ⟨fun pins s σ H Q I h => ?_⟩
  refine wpAny_Call_Name_kw (ld_glob I hg hm ?_ hdb)
  refine PySem.W.callWith_K (h₀ := X.base) I.ok.mod.kin hk (thn (ha.run pos pins s σ H _ I h) fun us s1 ⟨vs, H1, I1, r, D, e1, e2, z⟩ => ⟨I1.kIn, ?_⟩) he hpl
  subst e1 e2
  have hl : us.length = ps.length := by rw [← r.length]; exact F.len _ _ _ _ _ _ z
  have b := hb s1 us I1.kIn (by rw [List.append_nil]; exact hl)
  rw [List.append_nil] at b
  have P1 := I1.pin (a, oe) (List.mem_append_left _ hp)
  have hpin : PinOk X.stack H1 s1 (a, oe) := ⟨P1.1, P1.2.1, fun hm => (List.mem_cons.mp (I1.stkSub a hm)).elim P1.2.2.1 P1.2.2.2.1, P1.2.2.2.2⟩
  refine wpAny_call (codeAny_mono (F.run X.A X.stack s1 H1 ⟨us, []⟩ us vs Q (a, oe) D hr hpin hz hf I1.env0 b r z) fun r s' hq => ?_)
  cases r with
  | error e => exact False.elim hq
  | ok fl =>
    cases fl with
    | ret u => exact I1.after hq
    | next => exact False.elim hq
    | brk => exact False.elim hq
    | cont => exact False.elim hq
end
theorem roomH_mark {k j : Nat} {A : Around} {v : Option Value} (r : Room k A) (h : j ≤ k) : RoomH j (A.mark v) := ⟨(roomH_of (r.mono h)).dp, (roomH_of (r.mono h)).un⟩
/-- a call that may raise -/
theorem pe_callX {X : Cx} {k : Nat} {ps : List Str} {sp : Sp} {E : L2.St → XK} {x : Str} {q pos : Pos} {e : Expr} {es : List Expr} {t : TA} (D : DefAt X.prog X.w X.K X.mg X.base (L2.CX X.prog X.w) k x ps sp) (hr : Room k X.A) (hg : Gl X x)
    (hx : ∀ σ, PassesAt (L2.CX X.prog X.w) X σ (E σ)) (ha : PA X (e :: es) t) (hdb : (x == ("__debug__" : Str)) = false := by decide) (he : starEach (e :: es) X.env = (false, eval e X.env) :: starEach es X.env := by rfl)
    (hpl : (backTo pos (starEach es X.env)).any (·.1) = false := by rfl) : PE X (.Call (.Name x q) (e :: es) [] pos) (tCallS sp E t) := by
  obtain ⟨f, fd, F, a, b, c⟩ := D
  exact pe_callS F hr hg a b c hx ha hdb he hpl
/-- a promise by the body's reading, where something may be raised -/
theorem FunAt.okX {P : Program} {w : World} {K : PySem.W.Frag} {mg : Str → Option Value} {base : Heap} {nm : Str} {st : Stmt} {ps N : List Str} {sp : Sp} {k : Nat} (F : FunAt K mg nm st ps) (S : FnScope N ps (defScope st)) (len : ∀ vs H Q E, sp vs H Q E → vs.length = ps.length)
    (hbody : ∀ (f : Addr) (cdv : Value) (A : Around) (outer : List Env) (s : Shared) (H : Hp) (vs : List V) (Q : VK) (E : XK), Room k (A.deeper (envOfC nm (defScope st) s.heap.objs.size f cdv)) → sp vs H Q E →
      ∃ t, PSs (cxOf (L2.CX P w) P w K mg base N nm (defScope st) f cdv A outer s H E) (defBody st) t ∧ t { nx := fun _ H' => Q .non H', rt := Q } (L2.start N vs) H) : DefAt P w K mg base (L2.CX P w) (k + 1) nm ps sp := by
  obtain ⟨f, fd, F, a, b⟩ := F
  exact ⟨f, fd, F.okX S len (hbody f), a, F.kp, b⟩
/-! ### the error classes -/
/-- what the top has written of the four classes: S the base, V P N the three -/
structure Er (K : PySem.W.Frag) (mg : Str → Option Value) (S V P N : Addr) : Prop where
  g_SomeError : mg "SomeError" = some (.ref S)
  g_NoValue : mg "NoValue" = some (.ref V)
  g_NotPlain : mg "NotPlain" = some (.ref P)
  g_NoNote : mg "NoNote" = some (.ref N)
  x_NoValue : PySem.W.excIn K V [.type "ValueError", .type "Exception", .type "BaseException", .type "object"] "ValueError.__new__" = true
  k_NoValue : PySem.W.keepIn K (.ref V) = true
  b_NoValue : PySem.W.subIn K (.ref V) (.type "BaseException") = some true
  t_NoValue : PySem.W.typeIn K (.ref V) = some (.type "type")
  c_NoValue : ExcC K V
  x_NotPlain : PySem.W.excIn K P [.type "ValueError", .type "Exception", .type "BaseException", .type "object"] "ValueError.__new__" = true
  k_NotPlain : PySem.W.keepIn K (.ref P) = true
  b_NotPlain : PySem.W.subIn K (.ref P) (.type "BaseException") = some true
  t_NotPlain : PySem.W.typeIn K (.ref P) = some (.type "type")
  c_NotPlain : ExcC K P
  x_NoNote : PySem.W.excIn K N [.type "ValueError", .type "Exception", .type "BaseException", .type "object"] "ValueError.__new__" = true
  k_NoNote : PySem.W.keepIn K (.ref N) = true
  b_NoNote : PySem.W.subIn K (.ref N) (.type "BaseException") = some true
  t_NoNote : PySem.W.typeIn K (.ref N) = some (.type "type")
  c_NoNote : ExcC K N
  m_V : PySem.W.exmOne K (.ref V) (.ref S) = some true
  m_P : PySem.W.exmOne K (.ref P) (.ref S) = some true
  m_N : PySem.W.exmOne K (.ref N) (.ref S) = some true
  i_VV : PySem.W.kitOne K (.ref V) (.ref V) = some true
  i_VP : PySem.W.kitOne K (.ref V) (.ref P) = some false
  i_VN : PySem.W.kitOne K (.ref V) (.ref N) = some false
  i_V : PySem.W.kitOne K (.ref V) (.type "ValueError") = some true
  i_PV : PySem.W.kitOne K (.ref P) (.ref V) = some false
  i_PP : PySem.W.kitOne K (.ref P) (.ref P) = some true
  i_PN : PySem.W.kitOne K (.ref P) (.ref N) = some false
  i_P : PySem.W.kitOne K (.ref P) (.type "ValueError") = some true
  i_NV : PySem.W.kitOne K (.ref N) (.ref V) = some false
  i_NP : PySem.W.kitOne K (.ref N) (.ref P) = some false
  i_NN : PySem.W.kitOne K (.ref N) (.ref N) = some true
  i_N : PySem.W.kitOne K (.ref N) (.type "ValueError") = some true
/-- which error -/
inductive Ek | value | plain | note
def Ek.at (V P N : Addr) : Ek → Addr
  | .value => V | .plain => P | .note => N
def Ek.word : Ek → Str
  | .value => "no value" | .plain => "not plain" | .note => "no note"
def sp_word_of (V P N : Addr) : Addr → Addr → Sp := fun a D vs H Q _ => vs = [.ref a] ∧ ∃ k : Ek, D = k.at V P N ∧ ∀ H', Same H H' → Q (.str k.word) H'
section
variable {K : PySem.W.Frag} {H : Hp} {Q : VK} {σ : L2.St}
theorem x_isE {a D : Addr} {c : Addr} {b : Bool} (e : PySem.W.kitOne K (.ref D) (.ref c) = some b) (q : Q (.bl b) H) : rIsE K D a [.ref a, .ref c] H Q := ⟨.ref c, .ref c, b, rfl, fun _ h => h, e, q⟩
theorem x_isET {a D : Addr} {n : String} {b : Bool} (e : PySem.W.kitOne K (.ref D) (.type n) = some b) (q : Q (.bl b) H) : rIsE K D a [.ref a, .ty n] H Q := ⟨.ty n, .type n, b, rfl, fun _ h => h, e, q⟩
theorem x_callS {sp : Sp} {E : L2.St → XK} {t : TA} (h : t σ H fun vs H1 => sp vs H1 Q (E σ)) : tCallS sp E t σ H Q := h
theorem x_callP {a : Addr} {D : Addr} {sp : Addr → Addr → Sp} {t : TA} (h : t σ H fun vs H1 => sp a D vs H1 Q E0) : tCallP a (.ref D) none sp t σ H Q := by
  unfold tCallP
  refine (show t σ H (fun vs H1 => ∃ D', Value.ref D = .ref D' ∧ (none : Option Addr) = none ∧ sp a D' vs H1 Q E0) from ?_)
  have e : (fun (vs : List V) (H1 : Hp) => ∃ D', Value.ref D = .ref D' ∧ (none : Option Addr) = none ∧ sp a D' vs H1 Q E0) = fun vs H1 => sp a D vs H1 Q E0 := by
    funext vs H1
    exact propext ⟨fun ⟨D', h1, _, h2⟩ => by cases h1; exact h2, fun h => ⟨D, rfl, rfl, h⟩⟩
  rw [e]
  exact h
/-- sep.join of a list of texts -/
def rJoinK (K : PySem.W.Frag) : V → List V → Hp → VK → Prop := fun x xs H Q => ∃ a p, ∃ ys : List Str, x = .str a ∧ xs = [.ref p] ∧ (SqL K H p (ys.map V.str) ∨ SqT K H p (ys.map V.str)) ∧
  (ys.map (·.length)).sum + ys.length * a.length ≤ 16777216 ∧ Q (.str (Txt.join a ys)) H
theorem x_M1 {r : V → List V → Hp → VK → Prop} {to te : TE} (h : to σ H fun x H1 => (∃ a, x = .str a) ∧ te σ H1 fun y H2 => r x [y] H2 Q) : tM1 r to te σ H Q := h
end
theorem pe_joinK {X : Cx} {o e : Expr} {to te : TE} {apos pos : Pos} (K : PySem.W.Frag) (ho : PE X o to) (he : PE X e te) (hK : X.K = K := by rfl) (hs : starEach [e] X.env = [(false, eval e X.env)] := by rfl) (hbase : attributeBase o "join" X.env (eval o X.env) = eval o X.env := by rfl)
    (hline : (apos.endLine == pos.line) = true := by rfl) : PE X (.Call (.Attribute o "join" apos) [e] [] pos) (tM1 (rJoinK K) to te) := by
  subst hK
  exact pe_join ho he hs hbase hline
end XS

namespace XS
open PySem PySem.Spec PyProof.Rows L2
/-! ### the sums as functions -/
instance (a b : Str) : Decidable (slt a b) := by unfold slt; infer_instance
/-- a pair put into rising pairs -/
def ins (p : Pr) : List Pr → List Pr
  | [] => [p]
  | q :: r => if p.1 = q.1 then (q.1, q.2 + p.2) :: r else if slt p.1 q.1 then p :: q :: r else q :: ins p r
def sortP (ps : List Pr) : List Pr := ps.foldl (fun acc p => ins p acc) []
def nrm (ps : List Pr) : List Pr := (sortP ps).filter fun p => decide (p.2 ≠ 0)
theorem ins_mem (p : Pr) (x : Str) : ∀ r : List Pr, x ∈ (ins p r).map (·.1) ↔ x = p.1 ∨ x ∈ r.map (·.1)
  | [] => by simp [ins]
  | q :: r => by
    unfold ins
    split
    · rename_i h
      simp only [List.map_cons, List.mem_cons]
      constructor
      · rintro (h2 | h2)
        · exact .inr (.inl h2)
        · exact .inr (.inr h2)
      · rintro (h2 | h2 | h2)
        · exact .inl (h2.trans h)
        · exact .inl h2
        · exact .inr h2
    · split
      · simp
      · simp only [List.map_cons, List.mem_cons]
        rw [ins_mem p x r]
        constructor
        · rintro (h | h | h)
          · exact .inr (.inl h)
          · exact .inl h
          · exact .inr (.inr h)
        · rintro (h | h | h)
          · exact .inr (.inl h)
          · exact .inl h
          · exact .inr (.inr h)
theorem ins_rise (p : Pr) : ∀ r : List Pr, Rising (r.map (·.1)) → Rising ((ins p r).map (·.1))
  | [], _ => List.pairwise_singleton _ _
  | q :: r, h => by
    have h' := List.pairwise_cons.mp h
    unfold ins
    split
    · exact h
    · rename_i hne
      split
      · rename_i hlt
        refine List.pairwise_cons.mpr ⟨fun y hy => ?_, h⟩
        rcases List.mem_cons.mp hy with rfl | hy
        · exact hlt
        · exact slt_tr hlt (h'.1 y hy)
      · rename_i hge
        refine List.pairwise_cons.mpr ⟨fun y hy => ?_, ins_rise p r h'.2⟩
        rcases (ins_mem p y r).mp hy with rfl | hy
        · by_cases c : slt q.1 p.1
          · exact c
          · exact absurd (slt_tot hge c) hne
        · exact h'.1 y hy
theorem sortP_app (ps : List Pr) (p : Pr) : sortP (ps ++ [p]) = ins p (sortP ps) := by
  unfold sortP
  rw [List.foldl_append]
  rfl
/-- what is reckoned over the pairs -/
def dot (f : Str → Int) (ps : List Pr) : Int := (ps.map fun p => p.2 * f p.1).sum
theorem dot_nil (f : Str → Int) : dot f [] = 0 := rfl
theorem dot_cons (f : Str → Int) (p : Pr) (ps : List Pr) : dot f (p :: ps) = p.2 * f p.1 + dot f ps := by
  unfold dot
  rw [List.map_cons, List.sum_cons]
theorem dot_app (f : Str → Int) (ps qs : List Pr) : dot f (ps ++ qs) = dot f ps + dot f qs := by
  unfold dot
  rw [List.map_append, List.sum_append]
theorem ins_dot (f : Str → Int) (p : Pr) : ∀ r : List Pr, dot f (ins p r) = p.2 * f p.1 + dot f r
  | [] => dot_cons f p []
  | q :: r => by
    unfold ins
    split
    · rename_i h
      rw [dot_cons, dot_cons, h, Int.add_mul]
      show q.2 * f q.1 + p.2 * f q.1 + dot f r = _
      omega
    · split
      · rw [dot_cons]
      · rw [dot_cons, ins_dot f p r, dot_cons]
        omega
theorem sortP_dot (f : Str → Int) (ps : List Pr) : dot f (sortP ps) = dot f ps := by
  have key : ∀ (ps acc : List Pr), dot f (ps.foldl (fun acc p => ins p acc) acc) = dot f acc + dot f ps := by
    intro ps
    induction ps with
    | nil => intro acc; rw [dot_nil, Int.add_zero]; rfl
    | cons p ps ih =>
      intro acc
      rw [List.foldl_cons, ih, ins_dot, dot_cons]
      omega
  unfold sortP
  rw [key, dot_nil, Int.zero_add]
theorem filter_dot (f : Str → Int) (ps : List Pr) : dot f (ps.filter fun p => decide (p.2 ≠ 0)) = dot f ps := by
  induction ps with
  | nil => rfl
  | cons p ps ih =>
    rw [List.filter_cons]
    by_cases h : p.2 = 0
    · rw [if_neg (by simp [h]), ih, dot_cons, h, Int.zero_mul, Int.zero_add]
    · rw [if_pos (by simpa using h), dot_cons, dot_cons, ih]
theorem nrm_dot (f : Str → Int) (ps : List Pr) : dot f (nrm ps) = dot f ps := (filter_dot f _).trans (sortP_dot f ps)
theorem shr_dot (ps : List Pr) (x : Str) : shr ps x = dot (fun y => if y = x then 1 else 0) ps := by
  induction ps with
  | nil => rfl
  | cons p ps ih =>
    rw [shr_cons, dot_cons, ih]
    split
    · rw [Int.mul_one]
    · rw [Int.mul_zero]
theorem sortP_rise (ps : List Pr) : Rising ((sortP ps).map (·.1)) := by
  have key : ∀ (ps acc : List Pr), Rising (acc.map (·.1)) → Rising ((ps.foldl (fun acc p => ins p acc) acc).map (·.1)) := by
    intro ps
    induction ps with
    | nil => intro acc h; exact h
    | cons p ps ih => intro acc h; exact ih _ (ins_rise p acc h)
  exact key ps [] List.Pairwise.nil
theorem sortP_mem (ps : List Pr) (x : Str) : x ∈ (sortP ps).map (·.1) ↔ x ∈ ps.map (·.1) := by
  have key : ∀ (ps acc : List Pr), x ∈ (ps.foldl (fun acc p => ins p acc) acc).map (·.1) ↔ x ∈ acc.map (·.1) ∨ x ∈ ps.map (·.1) := by
    intro ps
    induction ps with
    | nil => intro acc; simp
    | cons p ps ih =>
      intro acc
      rw [List.foldl_cons, ih, ins_mem, List.map_cons, List.mem_cons]
      constructor
      · rintro ((h | h) | h)
        · exact .inr (.inl h)
        · exact .inl h
        · exact .inr (.inr h)
      · rintro (h | h | h)
        · exact .inl (.inr h)
        · exact .inl (.inl h)
        · exact .inr h
  unfold sortP
  rw [key]
  simp
theorem nrm_norm (ps : List Pr) : Norm (nrm ps) where
  rise := by
    have h : ((nrm ps).map (·.1)).Sublist ((sortP ps).map (·.1)) := (List.filter_sublist).map _
    exact List.Pairwise.sublist h (sortP_rise ps)
  nz := fun p hp => by simpa using (List.mem_filter.mp hp).2
theorem nrm_shr (ps : List Pr) (x : Str) : shr (nrm ps) x = shr ps x := by rw [shr_dot, nrm_dot, ← shr_dot]
theorem nrm_mem {ps : List Pr} {x : Str} (h : x ∈ (nrm ps).map (·.1)) : x ∈ ps.map (·.1) := by
  obtain ⟨p, hp, rfl⟩ := List.mem_map.mp h
  exact (sortP_mem ps _).mp (List.mem_map_of_mem (List.mem_filter.mp hp).1)
theorem norm_is {ps out : List Pr} (n : Norm out) (h : ∀ x, shr out x = shr ps x) : out = nrm ps := norm_ext n (nrm_norm ps) fun x => by rw [h, nrm_shr]
theorem ins_len (p : Pr) : ∀ r : List Pr, (ins p r).length ≤ r.length + 1
  | [] => Nat.le_refl _
  | q :: r => by
    unfold ins
    split
    · simp
    · split
      · simp
      · have := ins_len p r
        simp
        omega
theorem nrm_len (ps : List Pr) : (nrm ps).length ≤ ps.length := by
  have key : ∀ (ps acc : List Pr), (ps.foldl (fun acc p => ins p acc) acc).length ≤ acc.length + ps.length := by
    intro ps
    induction ps with
    | nil => intro acc; exact Nat.le_refl _
    | cons p ps ih =>
      intro acc
      have h1 := ih (ins p acc)
      have h2 := ins_len p acc
      rw [List.foldl_cons, List.length_cons]
      omega
  have h1 := key ps []
  have h2 := List.length_filter_le (fun p : Pr => decide (p.2 ≠ 0)) (sortP ps)
  unfold nrm
  unfold sortP at h2 ⊢
  simp at h1
  omega
/-- the functions of sums -/
def mkS (n : Int) (ps : List Pr) : Sm := (n, nrm ps)
def addS (s o : Sm) : Sm := mkS (s.1 + o.1) (s.2 ++ o.2)
def timS (c : Int) (s : Sm) : Sm := mkS (c * s.1) (s.2.map fun p => (p.1, c * p.2))
def woS (s : Sm) (x : Str) : Sm := mkS s.1 (s.2.filter fun p => decide (p.1 ≠ x))
def putS (s : Sm) (x : Str) (o : Sm) : Sm := addS (woS s x) (timS (shr s.2 x) o)
def valS (f : Str → Int) (s : Sm) : Int := s.1 + dot f s.2
theorem val_mk (f : Str → Int) (n : Int) (ps : List Pr) : valS f (mkS n ps) = n + dot f ps := by unfold valS mkS; rw [nrm_dot]
theorem val_add (f : Str → Int) (s o : Sm) : valS f (addS s o) = valS f s + valS f o := by
  unfold addS
  rw [val_mk, dot_app]
  unfold valS
  omega
theorem dot_map (f : Str → Int) (c : Int) (ps : List Pr) : dot f (ps.map fun p => (p.1, c * p.2)) = c * dot f ps := by
  induction ps with
  | nil => rw [List.map_nil, dot_nil, Int.mul_zero]
  | cons p ps ih => rw [List.map_cons, dot_cons, dot_cons, ih, Int.mul_add, Int.mul_assoc]
theorem val_tim (f : Str → Int) (c : Int) (s : Sm) : valS f (timS c s) = c * valS f s := by
  unfold timS
  rw [val_mk, dot_map]
  unfold valS
  rw [Int.mul_add]
theorem dot_wo (f : Str → Int) (ps : List Pr) (x : Str) : dot f (ps.filter fun p => decide (p.1 ≠ x)) = dot f ps - shr ps x * f x := by
  induction ps with
  | nil => rw [List.filter_nil, dot_nil, shr_nil, Int.zero_mul]; rfl
  | cons p ps ih =>
    rw [List.filter_cons, shr_cons, dot_cons]
    by_cases h : p.1 = x
    · rw [if_neg (by simp [h]), if_pos h, ih, h, Int.add_mul]
      omega
    · rw [if_pos (by simpa using h), if_neg h, dot_cons, ih, Int.zero_add]
      omega
theorem val_wo (f : Str → Int) (s : Sm) (x : Str) : valS f (woS s x) = valS f s - shr s.2 x * f x := by
  unfold woS
  rw [val_mk, dot_wo]
  unfold valS
  omega
theorem val_put (f : Str → Int) (s : Sm) (x : Str) (o : Sm) : valS f (putS s x o) = valS f s - shr s.2 x * f x + shr s.2 x * valS f o := by
  unfold putS
  rw [val_add, val_wo, val_tim]
theorem shr_wo (s : Sm) (x y : Str) : shr (woS s x).2 y = if y = x then 0 else shr s.2 y := by
  show shr (nrm _) y = _
  rw [nrm_shr, shr_dot, dot_wo, ← shr_dot]
  by_cases h : y = x
  · subst h
    rw [if_pos rfl, if_pos rfl, Int.mul_one, Int.sub_self]
  · rw [if_neg h, if_neg (fun e => h e.symm), Int.mul_zero, Int.sub_zero]
theorem shr_add (s o : Sm) (y : Str) : shr (addS s o).2 y = shr s.2 y + shr o.2 y := by
  show shr (nrm _) y = _
  rw [nrm_shr, shr_app]
theorem shr_tim (c : Int) (s : Sm) (y : Str) : shr (timS c s).2 y = c * shr s.2 y := by
  show shr (nrm _) y = _
  rw [nrm_shr, shr_dot, dot_map, ← shr_dot]
theorem shr_put (s : Sm) (x : Str) (o : Sm) (y : Str) : shr (putS s x o).2 y = (if y = x then 0 else shr s.2 y) + shr s.2 x * shr o.2 y := by
  unfold putS
  rw [shr_add, shr_wo, shr_tim]
/-! ### numbers that may be multiplied -/
def Sml (i : Int) : Prop := i.natAbs.log2 < 400000
theorem sml_of {i : Int} {n : Nat} (h : i.natAbs < 2 ^ n) (hn : n ≤ 400000) : Sml i := by
  unfold Sml
  by_cases h0 : i.natAbs = 0
  · rw [h0]; decide
  · have := (Nat.log2_lt h0).mpr h
    omega
theorem ten_two : (10 : Nat) ^ 60 < 2 ^ 200 := by decide
theorem sml_big (c : Int) : Sml (bigBy c) := sml_of (Nat.lt_trans (bigBy_b c) ten_two) (by decide)
theorem sml_small {i : Int} (h : i.natAbs < 2 ^ 64) : Sml i := sml_of h (by decide)
theorem mul_ok {i j : Int} (h1 : Sml i) (h2 : Sml j) : CMulW i j := by
  unfold Sml at h1 h2
  unfold CMulW
  omega
/-- the numbers of a sum -/
def SmlS (s : Sm) : Prop := Sml s.1 ∧ ∀ p ∈ s.2, Sml p.2
/-! ### promises -/
def sp_mk (K : PySem.W.Frag) : Sp := fun vs H Q _ => ∃ (n : Int) (v : V) (ps : List Pr), vs = [.int n, v] ∧ Dp K H v (.list (ps.map prT)) ∧ ps.length < 64 ∧
  ∀ t H', Same H H' → Dp K H' (.ref t) (sumD (mkS n ps)) → Q (.ref t) H'
theorem mk_imp {K : PySem.W.Frag} (vs : List V) (H : Hp) (Q : VK) (E : XK) (h : sp_mk K vs H Q E) : sp_made K vs H Q E := by
  obtain ⟨n, v, ps, e, hd, hl, q⟩ := h
  refine ⟨n, v, ps, e, hd, hl, fun t H' out e n s sub d => q t H' e ?_⟩
  rw [norm_is n s] at d
  exact d
def sp_added (K : PySem.W.Frag) : Sp := fun vs H Q _ => ∃ (v u : V) (s o : Sm), vs = [v, u] ∧ Dp K H v (sumD s) ∧ Dp K H u (sumD o) ∧ s.2.length + o.2.length < 64 ∧
  ∀ t H', Same H H' → Dp K H' (.ref t) (sumD (addS s o)) → Q (.ref t) H'
def sp_times (K : PySem.W.Frag) : Sp := fun vs H Q _ => ∃ (c : Int) (v : V) (s : Sm), vs = [.int c, v] ∧ Dp K H v (sumD s) ∧ s.2.length < 64 ∧ Sml c ∧ SmlS s ∧
  ∀ t H', Same H H' → Dp K H' (.ref t) (sumD (timS c s)) → Q (.ref t) H'
def sp_without (K : PySem.W.Frag) : Sp := fun vs H Q _ => ∃ (v : V) (s : Sm) (x : Str), vs = [v, .str x] ∧ Dp K H v (sumD s) ∧ s.2.length < 64 ∧
  ∀ t H', Same H H' → Dp K H' (.ref t) (sumD (woS s x)) → Q (.ref t) H'
def sp_put_in (K : PySem.W.Frag) : Sp := fun vs H Q _ => ∃ (v u : V) (s o : Sm) (x : Str), vs = [v, .str x, u] ∧ Dp K H v (sumD s) ∧ Dp K H u (sumD o) ∧ (s.2.map (·.1)).Nodup ∧ s.2.length + o.2.length < 64 ∧ SmlS s ∧ SmlS o ∧
  ∀ t H', Same H H' → Dp K H' (.ref t) (sumD (putS s x o)) → Q (.ref t) H'
/-- values told by a dict -/
def look (m : List Pr) (x : Str) : Int := (getP m x).getD 0
theorem getP_look {m : List Pr} {x : Str} (h : x ∈ m.map (·.1)) : getP m x = some (look m x) := by
  have h2 := getP_some (m := m) (x := x)
  rw [decide_eq_true h] at h2
  unfold look
  cases q1 : getP m x with
  | none => rw [q1] at h2; cases h2
  | some k => rfl
theorem look_sml {m : List Pr} {x : Str} (sm : ∀ q ∈ m, Sml q.2) (hv : getP m x = some (look m x)) : Sml (look m x) := by
  unfold getP at hv
  cases q1 : m.find? (fun q => decide (q.1 = x)) with
  | none => rw [q1] at hv; cases hv
  | some k =>
    rw [q1] at hv
    have hv' := Option.some.inj hv
    rw [← hv']
    exact sm k (List.mem_of_find?_eq_some q1)
def sp_value (K : PySem.W.Frag) (NV : Addr) : Sp := fun vs H Q E => ∃ (v : V) (d : Addr) (s : Sm) (m : List Pr), vs = [v, .ref d] ∧ Dp K H v (sumD s) ∧ H d = some (.dK (dOf m)) ∧ SmlS s ∧ (∀ q ∈ m, Sml q.2) ∧ (∀ p ∈ s.2, p.1.length ≤ 1000) ∧
  ((∀ p ∈ s.2, p.1 ∈ m.map (·.1)) → Q (.int (valS (look m) s)) H) ∧ ((∃ p ∈ s.2, p.1 ∉ m.map (·.1)) → E (.ref NV) none H)
/-! ### the sums that the law draws -/
def srt (xs : List Str) : List Str := (sortP (xs.map fun x => (x, 0))).map (·.1)
theorem srt_rise (xs : List Str) : Rising (srt xs) := sortP_rise _
theorem srt_mem (xs : List Str) (x : Str) : x ∈ srt xs ↔ x ∈ xs := by
  unfold srt
  rw [sortP_mem, List.map_map]
  show x ∈ xs.map id ↔ _
  rw [List.map_id]
theorem srt_is {xs ys : List Str} (nd : xs.Nodup) (hp : ys.Perm xs) (hs : sortedS ys = true) : ys = srt xs :=
  rising_ext (rising_of (hp.nodup_iff.mpr nd) hs) (srt_rise xs) fun x => by rw [hp.mem_iff, srt_mem]
def byOf (wd m : Int) : Int := m / 7 % (2 * wd + 1) - wd
theorem byOf_b {wd : Int} (h : 0 ≤ wd) (m : Int) : -wd ≤ byOf wd m ∧ byOf wd m ≤ wd := by
  have h1 : 0 ≤ m / 7 % (2 * wd + 1) := Int.emod_nonneg _ (by omega)
  have h2 : m / 7 % (2 * wd + 1) < 2 * wd + 1 := Int.emod_lt_of_pos _ (by omega)
  unfold byOf
  omega
def sumTurn (wd : Int) (s : Int × List Pr) (x : Str) : Int × List Pr := (mixN s.1, if byOf wd (mixN s.1) = 0 then s.2 else s.2 ++ [(x, byOf wd (mixN s.1))])
def sumRun (wd c : Int) (ys : List Str) : Int × List Pr := ys.foldl (sumTurn wd) (c, [])
theorem sumRun_more (wd c : Int) (ys : List Str) (x : Str) : sumRun wd c (ys ++ [x]) = sumTurn wd (sumRun wd c ys) x := by
  unfold sumRun
  rw [List.foldl_append]
  rfl
def sumBy (c : Int) (names : List Str) (wd : Int) : Sm := (mixN (sumRun wd c (srt names)).1 / 7 % 19 - 9, (sumRun wd c (srt names)).2)
/-- the parts so far: some of the names, in their order -/
theorem sumRun_ok (wd c : Int) (hw : 0 ≤ wd) : ∀ ys : List Str, ((sumRun wd c ys).2.map (·.1)).Sublist ys ∧ (∀ p ∈ (sumRun wd c ys).2, p.2 ≠ 0 ∧ p.2.natAbs ≤ wd.toNat) := by
  intro ys
  have key : ∀ n, ∀ ys : List Str, ys.length = n → ((sumRun wd c ys).2.map (·.1)).Sublist ys ∧ (∀ p ∈ (sumRun wd c ys).2, p.2 ≠ 0 ∧ p.2.natAbs ≤ wd.toNat) := by
    intro n
    induction n with
    | zero =>
      intro ys h
      cases ys with
      | nil => exact ⟨List.Sublist.slnil, fun p hp => by cases hp⟩
      | cons y ys => simp at h
    | succ n ih =>
      intro ys h
      have hne : ys ≠ [] := fun e => by rw [e] at h; simp at h
      have e := List.dropLast_concat_getLast hne
      generalize ys.dropLast = zs at e
      generalize ys.getLast hne = x at e
      subst e
      have ih' := ih zs (by simpa using h)
      rw [sumRun_more]
      have hb := byOf_b hw (mixN (sumRun wd c zs).1)
      unfold sumTurn
      by_cases h0 : byOf wd (mixN (sumRun wd c zs).1) = 0
      · simp only [if_pos h0]
        exact ⟨ih'.1.trans (List.sublist_append_left _ _), ih'.2⟩
      · simp only [if_neg h0]
        refine ⟨?_, fun p hp => ?_⟩
        · rw [List.map_append]
          exact ih'.1.append (List.Sublist.refl _)
        · rcases List.mem_append.mp hp with hp | hp
          · exact ih'.2 p hp
          · simp at hp
            subst hp
            exact ⟨h0, by show (byOf wd _).natAbs ≤ _; omega⟩
  exact key _ ys rfl
theorem sumBy_norm {c wd : Int} {names : List Str} (hw : 0 ≤ wd) : Norm (sumBy c names wd).2 where
  rise := List.Pairwise.sublist (sumRun_ok wd c hw _).1 (srt_rise names)
  nz := fun p hp => ((sumRun_ok wd c hw _).2 p hp).1
theorem sumBy_mem {c wd : Int} {names : List Str} (hw : 0 ≤ wd) {p : Pr} (hp : p ∈ (sumBy c names wd).2) : p.1 ∈ names :=
  (srt_mem names _).mp ((sumRun_ok wd c hw _).1.subset (List.mem_map_of_mem hp))
theorem sumBy_by {c wd : Int} {names : List Str} (hw : 0 ≤ wd) {p : Pr} (hp : p ∈ (sumBy c names wd).2) : p.2.natAbs ≤ wd.toNat := ((sumRun_ok wd c hw _).2 p hp).2
theorem srt_len (xs : List Str) : (srt xs).length ≤ xs.length := by
  unfold srt
  rw [List.length_map]
  have key : ∀ (ps acc : List Pr), (ps.foldl (fun acc p => ins p acc) acc).length ≤ acc.length + ps.length := by
    intro ps
    induction ps with
    | nil => intro acc; exact Nat.le_refl _
    | cons p ps ih =>
      intro acc
      have h1 := ih (ins p acc)
      have h2 := ins_len p acc
      rw [List.foldl_cons, List.length_cons]
      omega
  have := key (xs.map fun x => (x, 0)) []
  rw [List.length_map] at this
  unfold sortP
  simpa using this
theorem sumBy_len {c wd : Int} {names : List Str} (hw : 0 ≤ wd) : (sumBy c names wd).2.length ≤ names.length := by
  have h1 := (sumRun_ok wd c hw (srt names)).1.length_le
  rw [List.length_map] at h1
  exact Nat.le_trans h1 (srt_len names)
theorem sumBy_num (c wd : Int) (names : List Str) : (sumBy c names wd).1.natAbs ≤ 9 := by
  have h1 : 0 ≤ mixN (sumRun wd c (srt names)).1 / 7 % 19 := Int.emod_nonneg _ (by decide)
  have h2 : mixN (sumRun wd c (srt names)).1 / 7 % 19 < 19 := Int.emod_lt_of_pos _ (by decide)
  show (mixN (sumRun wd c (srt names)).1 / 7 % 19 - 9).natAbs ≤ 9
  omega
theorem sumBy_sml {c wd : Int} {names : List Str} (hw : 0 ≤ wd) (hw2 : wd ≤ 1000) : SmlS (sumBy c names wd) := by
  refine ⟨sml_small ?_, fun p hp => sml_small ?_⟩
  · have := sumBy_num c wd names
    exact Nat.lt_of_le_of_lt this (by decide)
  · have := sumBy_by hw hp
    exact Nat.lt_of_le_of_lt this (by omega)
theorem inV_str (x : Str) (xs : List Str) : inV (.str x) (xs.map V.str) = decide (x ∈ xs) := by
  unfold inV
  rw [List.any_map, Bool.eq_iff_iff]
  simp only [List.any_eq_true, decide_eq_true_eq, Function.comp, eqV, beq_iff_eq]
  constructor
  · rintro ⟨y, hy, rfl⟩
    exact hy
  · intro h
    exact ⟨x, h, rfl⟩
theorem flat_strs (xs : List Str) : (xs.map V.str).all flatV = true := by
  rw [List.all_map]
  simp [flatV]
def sp_sum_by (K : PySem.W.Frag) : Sp := fun vs H Q _ => ∃ (c wd : Int) (nl : Addr) (names : List Str), vs = [.int c, .ref nl, .int wd] ∧ SqL K H nl (names.map V.str) ∧ names.Nodup ∧ names.length ≤ 8 ∧ 0 ≤ wd ∧ wd ≤ 1000 ∧
  ∀ t H', Same H H' → Dp K H' (.ref t) (sumD (sumBy c names wd)) → Q (.ref t) H'
def sp_lvalue (K : PySem.W.Frag) : Sp := fun vs H Q _ => ∃ (v : V) (d : Addr) (s : Sm) (m : List Pr), vs = [v, .ref d] ∧ Dp K H v (sumD s) ∧ H d = some (.dK (dOf m)) ∧ SmlS s ∧ (∀ q ∈ m, Sml q.2) ∧ (∀ p ∈ s.2, p.1 ∈ m.map (·.1)) ∧ Q (.int (valS (look m) s)) H
def sp_sum_is (K : PySem.W.Frag) : Sp := fun vs H Q _ => ∃ (v : V) (nl : Addr) (s : Sm) (names : List Str), vs = [v, .ref nl] ∧ Dp K H v (sumD s) ∧ SqL K H nl (names.map V.str) ∧ Norm s.2 ∧ (∀ p ∈ s.2, p.1 ∈ names ∧ p.1.cps.toList ≠ []) ∧ Q (.bl true) H
theorem noval_len (x : Str) : ((Str.empty ++ ("no value is known for " : Str)) ++ x).length = 22 + x.length := by
  have e1 : (Str.empty ++ ("no value is known for " : Str)).length = 22 := by decide +kernel
  have e2 : ((Str.empty ++ ("no value is known for " : Str)) ++ x).length = (Str.empty ++ ("no value is known for " : Str)).length + x.length := by
    show ((Str.empty ++ ("no value is known for " : Str)).cps ++ x.cps).size = _
    rw [Array.size_append]
    rfl
  rw [e2, e1]
/-- the name before place i, nothing ahead of all -/
def lastN (ps : List Pr) : Nat → Str
  | 0 => ""
  | i + 1 => (ps.getD i ("", 0)).1
theorem lastN_next {ps : List Pr} {i : Nat} {p : Pr} (h : ps[i]? = some p) : lastN ps (i + 1) = p.1 := by
  show (ps.getD i ("", 0)).1 = p.1
  rw [List.getD_eq_getElem?_getD, h]
  rfl
theorem lastN_lt {ps : List Pr} {i : Nat} {p : Pr} (no : Norm ps) (h : ps[i]? = some p) (h0 : p.1.cps.toList ≠ []) : (lastN ps i).cps.toList < p.1.cps.toList := by
  cases i with
  | zero =>
    show ([] : List Nat) < _
    cases e : p.1.cps.toList with
    | nil => exact absurd e h0
    | cons x xs => exact List.Lex.nil
  | succ i =>
    have hlt : i + 1 < ps.length := (List.getElem?_eq_some_iff.mp h).1
    have hp : ps[i]? = some ps[i] := List.getElem?_eq_getElem (by omega)
    rw [lastN_next hp]
    have r := List.pairwise_iff_getElem.mp no.rise i (i + 1) (by simpa using (by omega : i < ps.length)) (by simpa using hlt) (by omega)
    rw [List.getElem_map, List.getElem_map] at r
    have e2 : ps[i + 1] = p := (List.getElem?_eq_some_iff.mp h).2
    rw [e2] at r
    exact slt_lt.mp r
/-- refused of k02 -/
def sp_refused2 (K : PySem.W.Frag) : Sp := fun vs H Q _ => ∃ (v : V) (d : Addr) (s : Sm) (m : List Pr), vs = [v, .ref d] ∧ Dp K H v (sumD s) ∧ H d = some (.dK (dOf m)) ∧ SmlS s ∧ (∀ q ∈ m, Sml q.2) ∧ (∀ p ∈ s.2, p.1.length ≤ 1000) ∧
  ∀ H', Same H H' → Q (.str (if s.2.all fun p => decide (p.1 ∈ m.map (·.1)) then "" else "no value")) H'
end XS

namespace XS
open PySem PySem.Spec PyProof.Rows L2
/-! ### pieces of lists -/
theorem cut_take (xs : List V) (k : Nat) : cutV xs none (some (k : Int)) = xs.take k := by
  unfold cutV
  rw [HT.sIx_none, HT.sIx_nat, List.drop_zero, Nat.sub_zero]
  rcases Nat.le_total k xs.length with h | h
  · rw [Nat.min_eq_left h]
  · rw [Nat.min_eq_right h, List.take_length, List.take_of_length_le h]
theorem cut_drop (xs : List V) (k : Nat) : cutV xs (some (k : Int)) none = xs.drop k := by
  unfold cutV
  rw [HT.sIx_none, HT.sIx_nat]
  rcases Nat.le_total k xs.length with h | h
  · rw [Nat.min_eq_left h, List.take_of_length_le (by rw [List.length_drop]; exact Nat.le_refl _)]
  · rw [Nat.min_eq_right h, List.drop_eq_nil_of_le h, List.drop_eq_nil_of_le (Nat.le_refl _)]
    simp
/-! ### values -/
theorem putP_new {m : List Pr} {x : Str} {v : Int} (h : x ∉ m.map (·.1)) : putP m x v = m ++ [(x, v)] := by
  unfold putP
  rw [getP_any, decide_eq_false h, if_neg Bool.false_ne_true]
def dropP (m : List Pr) (x : Str) : List Pr := m.filter fun p => decide (p.1 ≠ x)
theorem dOf_drop (m : List Pr) (x : Str) : dropK (dOf m) (Sum.inr x : Key) = dOf (dropP m x) := by
  unfold dropK dOf dropP
  rw [List.filter_map]
  congr 1
  refine List.filter_congr fun p _ => ?_
  show decide ((Sum.inr p.1 : Key) ≠ Sum.inr x) = decide (p.1 ≠ x)
  rw [decide_not, decide_not, inr_dec]
theorem dropP_names (m : List Pr) (x y : Str) : y ∈ (dropP m x).map (·.1) ↔ y ∈ m.map (·.1) ∧ y ≠ x := by
  unfold dropP
  simp only [List.mem_map, List.mem_filter, decide_eq_true_eq]
  constructor
  · rintro ⟨p, ⟨h1, h2⟩, rfl⟩
    exact ⟨⟨p, h1, rfl⟩, h2⟩
  · rintro ⟨⟨p, h1, rfl⟩, h2⟩
    exact ⟨p, ⟨h1, h2⟩, rfl⟩
theorem dropP_nd {m : List Pr} (x : Str) (nd : (m.map (·.1)).Nodup) : ((dropP m x).map (·.1)).Nodup := List.Nodup.sublist ((List.filter_sublist).map _) nd
theorem dOf_self {m : List Pr} (nd : (m.map (·.1)).Nodup) : ∀ p ∈ dOf m, valV (dOf m) p.1 = some p.2 ∧ flatB p.2 = true := by
  intro q hq
  obtain ⟨p, hp, rfl⟩ := List.mem_map.mp hq
  refine ⟨?_, rfl⟩
  show valV (dOf m) (Sum.inr p.1 : Key) = some (V.int p.2)
  rw [dOf_val]
  have : getP m p.1 = some p.2 := by
    clear hq
    induction m with
    | nil => cases hp
    | cons q m ih =>
      have nd' := List.nodup_cons.mp (show (q.1 :: m.map (·.1)).Nodup from nd)
      unfold getP at ih ⊢
      rw [List.find?_cons]
      rcases List.mem_cons.mp hp with rfl | hp
      · rw [decide_eq_true rfl]; rfl
      · rw [decide_eq_false (fun e => nd'.1 (by rw [e]; exact List.mem_map_of_mem hp))]
        exact ih nd'.2 hp
  rw [this]
  rfl
/-! ### bounds -/
def Bnd (n k : Nat) (s : Sm) : Prop := s.1.natAbs ≤ n ∧ ∀ x, (shr s.2 x).natAbs ≤ k
theorem Bnd.sml {n k : Nat} {s : Sm} (b : Bnd n k s) (nd : (s.2.map (·.1)).Nodup) (hn : n < 2 ^ 250) (hk : k < 2 ^ 250) : SmlS s :=
  ⟨sml_of (Nat.lt_of_le_of_lt b.1 hn) (by decide), fun p hp => sml_of (n := 250) (Nat.lt_of_le_of_lt (by rw [← shr_at nd hp]; exact b.2 p.1) hk) (by decide)⟩
theorem Bnd.mono {n k n' k' : Nat} {s : Sm} (b : Bnd n k s) (h1 : n ≤ n') (h2 : k ≤ k') : Bnd n' k' s := ⟨Nat.le_trans b.1 h1, fun x => Nat.le_trans (b.2 x) h2⟩
theorem Bnd.add {n k n' k' : Nat} {s o : Sm} (b : Bnd n k s) (c : Bnd n' k' o) : Bnd (n + n') (k + k') (addS s o) := by
  refine ⟨?_, fun x => ?_⟩
  · have h1 := b.1; have h2 := c.1
    show (s.1 + o.1).natAbs ≤ _
    omega
  · rw [shr_add]
    have h1 := b.2 x; have h2 := c.2 x
    omega
theorem Bnd.tim {n k m : Nat} {c : Int} {s : Sm} (b : Bnd n k s) (h : c.natAbs ≤ m) : Bnd (m * n) (m * k) (timS c s) := by
  refine ⟨?_, fun x => ?_⟩
  · show (c * s.1).natAbs ≤ _
    rw [Int.natAbs_mul]
    exact Nat.mul_le_mul h b.1
  · rw [shr_tim, Int.natAbs_mul]
    exact Nat.mul_le_mul h (b.2 x)
theorem Bnd.wo {n k : Nat} {s : Sm} (b : Bnd n k s) (x : Str) : Bnd n k (woS s x) := by
  refine ⟨b.1, fun y => ?_⟩
  rw [shr_wo]
  split
  · exact Nat.zero_le _
  · exact b.2 y
theorem Bnd.put {n k n' k' : Nat} {s o : Sm} (b : Bnd n k s) (x : Str) (c : Bnd n' k' o) : Bnd (n + k * n') (k + k * k') (putS s x o) := (b.wo x).add (c.tim (b.2 x))
theorem bnd_by {c wd : Int} {names : List Str} (hw : 0 ≤ wd) : Bnd 9 wd.toNat (sumBy c names wd) := by
  refine ⟨sumBy_num c wd names, fun x => ?_⟩
  by_cases h : x ∈ (sumBy c names wd).2.map (·.1)
  · obtain ⟨p, hp, rfl⟩ := List.mem_map.mp h
    rw [shr_at (sumBy_norm hw).rise.nodup hp]
    exact sumBy_by hw hp
  · rw [shr_out h]
    exact Nat.zero_le _
/-! ### names -/
theorem add_mem {s o : Sm} {x : Str} (h : x ∈ (addS s o).2.map (·.1)) : x ∈ s.2.map (·.1) ∨ x ∈ o.2.map (·.1) := by
  have := nrm_mem h
  rw [List.map_append, List.mem_append] at this
  exact this
theorem tim_mem {c : Int} {s : Sm} {x : Str} (h : x ∈ (timS c s).2.map (·.1)) : x ∈ s.2.map (·.1) := by
  have := nrm_mem h
  rw [List.map_map] at this
  exact this
theorem wo_mem {s : Sm} {x y : Str} (h : y ∈ (woS s x).2.map (·.1)) : y ∈ s.2.map (·.1) ∧ y ≠ x := by
  have := nrm_mem h
  obtain ⟨p, hp, rfl⟩ := List.mem_map.mp this
  have h2 := List.mem_filter.mp hp
  exact ⟨List.mem_map_of_mem h2.1, by simpa using h2.2⟩
theorem put_mem {s o : Sm} {x y : Str} (h : y ∈ (putS s x o).2.map (·.1)) : y ∈ s.2.map (·.1) ∨ y ∈ o.2.map (·.1) := by
  rcases add_mem h with h | h
  · exact .inl (wo_mem h).1
  · exact .inr (tim_mem h)
/-- a sum, a number -/
def rowD (r : Sm × Int) : PyData := .tuple [sumD r.1, .int r.2]
theorem im_row (r : Sm × Int) : Im (rowD r) := im_tup2 (im_sum _) (.int _)
theorem Dp.row {K : PySem.W.Frag} {H : Hp} {v : V} {r : Sm × Int} (h : Dp K H v (rowD r)) : ∃ a u, v = .ref a ∧ SqT K H a [u, .int r.2] ∧ Dp K H u (sumD r.1) := by
  cases h with
  | tup hs ha =>
    cases ha with
    | cons h1 h2 =>
      cases h2 with
      | cons h3 h4 =>
        cases h3
        cases h4
        exact ⟨_, _, rfl, hs, h1⟩
end XS
namespace XS
open PySem PySem.Spec PyProof.Rows L2
theorem cut_take3 (xs : List V) : cutV xs none (some 3) = xs.take 3 := cut_take xs 3
theorem cut_drop1 (xs : List V) : cutV xs (some 1) none = xs.drop 1 := cut_drop xs 1
theorem getAt {m : List Pr} {x : Str} {H : Hp} {d : Addr} (hd : H d = some (.dK (dOf m))) (h : x ∈ m.map (·.1)) : DGet H d (.str x) (some (.int (look m x))) := by
  have g := DGet.k (k := Sum.inr x) hd
  rw [dOf_val, getP_look h] at g
  exact g
theorem getAny {m : List Pr} {x : Str} {H : Hp} {d : Addr} (hd : H d = some (.dK (dOf m))) : DGet H d (.str x) ((getP m x).map V.int) := by
  have g := DGet.k (k := Sum.inr x) hd
  rw [dOf_val] at g
  exact g
end XS
namespace XS
open PySem PySem.Spec PyProof.Rows L2
theorem dot_b {f : Str → Int} {k B : Nat} : ∀ {ps : List Pr}, (∀ p ∈ ps, p.2.natAbs ≤ k) → (∀ x, (f x).natAbs ≤ B) → (dot f ps).natAbs ≤ ps.length * (k * B)
  | [], _, _ => by rw [dot_nil]; exact Nat.zero_le _
  | p :: ps, h, hf => by
    rw [dot_cons, List.length_cons, Nat.add_mul, Nat.one_mul]
    have h1 := dot_b (ps := ps) (fun q hq => h q (List.mem_cons_of_mem _ hq)) hf
    have h2 : (p.2 * f p.1).natAbs ≤ k * B := by
      rw [Int.natAbs_mul]
      exact Nat.mul_le_mul (h p (List.mem_cons_self ..)) (hf p.1)
    have h3 := Int.natAbs_add_le (p.2 * f p.1) (dot f ps)
    omega
theorem look_b {m : List Pr} {B : Nat} (h : ∀ q ∈ m, q.2.natAbs ≤ B) (x : Str) : (look m x).natAbs ≤ B := by
  unfold look getP
  cases e : m.find? (fun p => decide (p.1 = x)) with
  | none => exact Nat.zero_le _
  | some p => exact h p (List.mem_of_find?_eq_some e)
theorem Bnd.prt {n k : Nat} {s : Sm} (b : Bnd n k s) (nd : (s.2.map (·.1)).Nodup) : ∀ p ∈ s.2, p.2.natAbs ≤ k := fun p hp => by rw [← shr_at nd hp]; exact b.2 p.1
theorem Bnd.val {n k B : Nat} {s : Sm} {m : List Pr} (b : Bnd n k s) (nd : (s.2.map (·.1)).Nodup) (h : ∀ q ∈ m, q.2.natAbs ≤ B) : (valS (look m) s).natAbs ≤ n + s.2.length * (k * B) := by
  have h1 := dot_b (f := look m) (b.prt nd) (look_b h)
  have h2 := b.1
  unfold valS
  omega
theorem sml_of' {i : Int} {n : Nat} (h : i.natAbs ≤ n) (hn : n < 2 ^ 250) : Sml i := sml_of (Nat.lt_of_le_of_lt h hn) (by decide)
theorem sml_all {m : List Pr} (h : ∀ q ∈ m, q.2.natAbs ≤ 10 ^ 60) : ∀ q ∈ m, Sml q.2 := fun q hq => sml_of' (h q hq) (by decide)
end XS
namespace XS
open PySem PySem.Spec PyProof.Rows L2
theorem none_of {H H1 : Hp} {p : Addr} (e : Same H H1) (h : H1 p = none) : H p = none := by
  cases q : H p with
  | none => rfl
  | some u => rw [e _ _ q] at h; cases h
theorem x_dpop1 {td ty : TE} {σ : L2.St} {H : Hp} {Q : VK} (h : td σ H fun x H1 => ∃ a, x = .ref a ∧ IsD H1 a ∧ ty σ H1 fun y H2 => ∃ kvs k v, H2 a = some (.dK kvs) ∧ y = kV k ∧ valV kvs k = some v ∧ Q v (upd H2 a (.dK (dropK kvs k)))) : tDPop1 td ty σ H Q := h
theorem Dp.mkRow {K : PySem.W.Frag} {H : Hp} {a : Addr} {u : V} {r : Sm × Int} (h1 : SqT K H a [u, .int r.2]) (h2 : Dp K H u (sumD r.1)) : Dp K H (.ref a) (rowD r) := .tup h1 (.cons h2 (.cons (.int _) .nil))
theorem isD_of {H : Hp} {a : Addr} {m : List (Key × V)} (h : H a = some (.dK m)) : IsD H a := .inl ⟨m, .inl h⟩
end XS

namespace XS
open PySem PySem.Spec PyProof.Rows L2
/-! ### what the top says of an error class -/
structure EcF (K : PySem.W.Frag) (D : Addr) : Prop where
  x : PySem.W.excIn K D [.type "ValueError", .type "Exception", .type "BaseException", .type "object"] "ValueError.__new__" = true
  k : PySem.W.keepIn K (.ref D) = true
  b : PySem.W.subIn K (.ref D) (.type "BaseException") = some true
  t : PySem.W.typeIn K (.ref D) = some (.type "type")
  d : PySem.W.hasDictIn K D = true
  ga : PySem.W.findIn K (.ref D) "__getattribute__" = some (some (.builtin "BaseException.__getattribute__"))
  gt : PySem.W.findIn K (.ref D) "__getattr__" = some none
  cl : PySem.W.findIn K (.ref D) "__class__" = some (some (.builtin "object.__class__"))
  mo : PySem.W.mroIn K D (.type "object") = some true
  ve : PySem.W.subIn K (.ref D) (.type "ValueError") = some true
  me : PySem.W.subIn K (.ref D) (.ref D) = some true
theorem EcF.c {K : PySem.W.Frag} {D : Addr} (e : EcF K D) (h1 : PySem.W.specialIn K (.builtin "object.__class__") "__get__" = some (some (.builtin "getset_descriptor.__get__"))) (h2 : PySem.W.takesIn K (.builtin "object.__class__") = some true) : ExcC K D :=
  ⟨e.ga, e.gt, e.b, e.d, e.cl, h1, h2, e.mo⟩
theorem kit_ref {K : PySem.W.Frag} {t : Value} {C : Addr} {b : Bool} (hd : PySem.W.hasDictIn K C = true) (ht : PySem.W.typeIn K (.ref C) = some (.type "type")) (h : PySem.W.subIn K t (.ref C) = some b) (hn : b = true ∨ (t == Value.ref C) = false) : PySem.W.kitOne K t (.ref C) = some b := by
  have hc : (PySem.W.clsIn K C).isSome = true := by
    unfold PySem.W.hasDictIn at hd
    cases e : PySem.W.clsIn K C with
    | none => rw [e] at hd; cases hd
    | some _ => rfl
  have e2 : ((PySem.W.clsIn K C).isSome && PySem.W.typeIn K (.ref C) == some (.type "type")) = true := by rw [hc, ht] <;> rfl
  have e3 : PySem.W.kitCls K t (.ref C) = some b := by
    show (if ((PySem.W.clsIn K C).isSome && PySem.W.typeIn K (.ref C) == some (.type "type")) = true then PySem.W.subIn K t (.ref C) else none) = some b
    rw [if_pos e2]
    exact h
  unfold PySem.W.kitOne
  rw [e3]
  split
  · rename_i e
    rcases hn with rfl | hn
    · rfl
    · rw [hn] at e; cases e
  · rfl
theorem kit_ve {K : PySem.W.Frag} {D : Addr} (h : PySem.W.subIn K (.ref D) (.type "ValueError") = some true) : PySem.W.kitOne K (.ref D) (.type "ValueError") = some true := by
  unfold PySem.W.kitOne
  have e : PySem.W.kitCls K (.ref D) (.type "ValueError") = some true := by
    show (if PySem.W.kitMeta "ValueError" = true then PySem.W.subIn K (.ref D) (.type "ValueError") else none) = some true
    rw [if_pos (by decide +kernel)]
    exact h
  rw [e]
  split <;> rfl
theorem er_mk {K : PySem.W.Frag} {mg : Str → Option Value} {S V P N : Addr} (gS : mg "SomeError" = some (.ref S)) (gV : mg "NoValue" = some (.ref V)) (gP : mg "NotPlain" = some (.ref P)) (gN : mg "NoNote" = some (.ref N))
    (s1 : PySem.W.specialIn K (.builtin "object.__class__") "__get__" = some (some (.builtin "getset_descriptor.__get__"))) (s2 : PySem.W.takesIn K (.builtin "object.__class__") = some true)
    (bS : PySem.W.subIn K (.ref S) (.type "BaseException") = some true) (dS : PySem.W.hasDictIn K S = true) (tS : PySem.W.typeIn K (.ref S) = some (.type "type")) (fV : EcF K V) (fP : EcF K P) (fN : EcF K N)
    (vS : PySem.W.subIn K (.ref V) (.ref S) = some true) (pS : PySem.W.subIn K (.ref P) (.ref S) = some true) (nS : PySem.W.subIn K (.ref N) (.ref S) = some true)
    (vp : PySem.W.subIn K (.ref V) (.ref P) = some false) (vn : PySem.W.subIn K (.ref V) (.ref N) = some false) (pv' : PySem.W.subIn K (.ref P) (.ref V) = some false) (pn : PySem.W.subIn K (.ref P) (.ref N) = some false)
    (nv : PySem.W.subIn K (.ref N) (.ref V) = some false) (np : PySem.W.subIn K (.ref N) (.ref P) = some false)
    (q1 : (Value.ref V == Value.ref P) = false) (q2 : (Value.ref V == Value.ref N) = false) (q3 : (Value.ref P == Value.ref V) = false) (q4 : (Value.ref P == Value.ref N) = false) (q5 : (Value.ref N == Value.ref V) = false) (q6 : (Value.ref N == Value.ref P) = false) : Er K mg S V P N where
  g_SomeError := gS
  g_NoValue := gV
  g_NotPlain := gP
  g_NoNote := gN
  x_NoValue := fV.x
  k_NoValue := fV.k
  b_NoValue := fV.b
  t_NoValue := fV.t
  c_NoValue := fV.c s1 s2
  x_NotPlain := fP.x
  k_NotPlain := fP.k
  b_NotPlain := fP.b
  t_NotPlain := fP.t
  c_NotPlain := fP.c s1 s2
  x_NoNote := fN.x
  k_NoNote := fN.k
  b_NoNote := fN.b
  t_NoNote := fN.t
  c_NoNote := fN.c s1 s2
  m_V := PySem.W.exm_ref bS dS tS vS
  m_P := PySem.W.exm_ref bS dS tS pS
  m_N := PySem.W.exm_ref bS dS tS nS
  i_VV := kit_ref fV.d fV.t fV.me (.inl rfl)
  i_VP := kit_ref fP.d fP.t vp (.inr q1)
  i_VN := kit_ref fN.d fN.t vn (.inr q2)
  i_V := kit_ve fV.ve
  i_PV := kit_ref fV.d fV.t pv' (.inr q3)
  i_PP := kit_ref fP.d fP.t fP.me (.inl rfl)
  i_PN := kit_ref fN.d fN.t pn (.inr q4)
  i_P := kit_ve fP.ve
  i_NV := kit_ref fV.d fV.t nv (.inr q5)
  i_NP := kit_ref fP.d fP.t np (.inr q6)
  i_NN := kit_ref fN.d fN.t fN.me (.inl rfl)
  i_N := kit_ve fN.ve
end XS

namespace XS
open PySem PySem.Spec PyProof.Rows L2
/-! ### statements -/
inductive Stm where
  | above (s : Sm)
  | nought (s : Sm)
  | goes (m : Int) (s : Sm)
  | neg (a : Stm)
  | con (o : Bool) (l : List Stm)
  | bnd (o : Bool) (x : Str) (a : Stm)
def conW (o : Bool) : Str := if o = true then "and" else "or"
def bndW (o : Bool) : Str := if o = true then "all" else "some"
mutual
def toD : Stm → PyData
  | .above s => .tuple [.str "above", sumD s]
  | .nought s => .tuple [.str "nought", sumD s]
  | .goes m s => .tuple [.str "goes", .int m, sumD s]
  | .neg a => .tuple [.str "not", toD a]
  | .con o l => .tuple [.str (conW o), .tuple (toDs l)]
  | .bnd o x a => .tuple [.str (bndW o), .str x, toD a]
def toDs : List Stm → List PyData
  | [] => []
  | a :: l => toD a :: toDs l
end
theorem toDs_map : ∀ l : List Stm, toDs l = l.map toD
  | [] => rfl
  | a :: l => by rw [List.map_cons, ← toDs_map l]; rfl
mutual
def dep : Stm → Nat
  | .above _ => 1
  | .nought _ => 1
  | .goes _ _ => 1
  | .neg a => dep a + 1
  | .con _ l => deps l + 1
  | .bnd _ _ a => dep a + 1
def deps : List Stm → Nat
  | [] => 0
  | a :: l => max (dep a) (deps l)
end
theorem dep_pos (a : Stm) : 0 < dep a := by cases a <;> exact Nat.succ_pos _
theorem dep_in : ∀ {l : List Stm} {a : Stm}, a ∈ l → dep a ≤ deps l
  | b :: l, a, h => by
    have e : deps (b :: l) = max (dep b) (deps l) := rfl
    rcases List.mem_cons.mp h with rfl | h
    · omega
    · have := dep_in h; omega
theorem deps_le : ∀ {l : List Stm} {n : Nat}, (∀ a ∈ l, dep a ≤ n) → deps l ≤ n
  | [], _, _ => Nat.zero_le _
  | b :: l, n, h => by
    have e : deps (b :: l) = max (dep b) (deps l) := rfl
    have h1 := h b (List.mem_cons_self ..)
    have h2 := deps_le (l := l) fun a ha => h a (List.mem_cons_of_mem _ ha)
    omega
/-- all sums keep p, lists are short -/
inductive Ev (p : Sm → Prop) : Stm → Prop
  | above {s : Sm} : p s → Ev p (.above s)
  | nought {s : Sm} : p s → Ev p (.nought s)
  | goes {m : Int} {s : Sm} : p s → 0 < m → Ev p (.goes m s)
  | neg {a : Stm} : Ev p a → Ev p (.neg a)
  | con {o : Bool} {l : List Stm} : (∀ a ∈ l, Ev p a) → l.length ≤ 64 → Ev p (.con o l)
  | bnd {o : Bool} {x : Str} {a : Stm} : Ev p a → Ev p (.bnd o x a)
theorem Ev.mono {p q : Sm → Prop} (h : ∀ s, p s → q s) : ∀ {a : Stm}, Ev p a → Ev q a := by
  intro a e
  induction e with
  | above x => exact .above (h _ x)
  | nought x => exact .nought (h _ x)
  | goes x y => exact .goes (h _ x) y
  | neg _ ih => exact .neg ih
  | con _ hl ih => exact .con ih hl
  | bnd _ ih => exact .bnd ih
/-- what stands right in a statement -/
def parts : Stm → List Stm
  | .above _ => []
  | .nought _ => []
  | .goes _ _ => []
  | .neg a => [a]
  | .con _ l => l
  | .bnd _ _ a => [a]
theorem dep_parts {a b : Stm} (h : b ∈ parts a) : dep b < dep a := by
  cases a with
  | above | nought | goes => cases h
  | neg c | bnd o x c =>
    have e : b = c := by simpa [parts] using h
    subst e
    exact Nat.lt_succ_self _
  | con o l => exact Nat.lt_succ_of_le (dep_in h)
theorem Ev.parts {p : Sm → Prop} {a b : Stm} (e : Ev p a) (h : b ∈ parts a) : Ev p b := by
  cases e with
  | above | nought | goes => cases h
  | @neg c hc =>
    have e : b = c := by simpa [XS.parts] using h
    subst e
    exact hc
  | @bnd o x c hc =>
    have e : b = c := by simpa [XS.parts] using h
    subst e
    exact hc
  | con c _ => exact c _ h
theorem Ev.parts_len {p : Sm → Prop} {a : Stm} (e : Ev p a) : (XS.parts a).length ≤ 64 := by
  cases e with
  | above | nought | goes => exact Nat.zero_le _
  | neg c | bnd c => exact (by decide : (1 : Nat) ≤ 64)
  | con _ h => exact h
def isB : Stm → Bool
  | .bnd _ _ _ => true
  | _ => false
mutual
def plainB : Stm → Bool
  | .above _ => true
  | .nought _ => true
  | .goes _ _ => true
  | .neg a => plainB a
  | .con _ l => plainBs l
  | .bnd _ _ _ => false
def plainBs : List Stm → Bool
  | [] => true
  | a :: l => plainB a && plainBs l
end
theorem plainBs_all : ∀ l : List Stm, plainBs l = l.all plainB
  | [] => rfl
  | a :: l => by rw [List.all_cons, ← plainBs_all l]; rfl
theorem plainB_eq (a : Stm) : plainB a = (!isB a && (parts a).all plainB) := by
  cases a with
  | above | nought | goes => rfl
  | neg c => simp [plainB, isB, parts]
  | bnd o x c => rfl
  | con o l => simp [plainB, isB, parts, plainBs_all]
theorem plain_part {a b : Stm} (h : plainB a = true) (hb : b ∈ parts a) : plainB b = true := by
  rw [plainB_eq] at h
  simp only [Bool.and_eq_true] at h
  exact List.all_eq_true.mp h.2 b hb
/-- the heads -/
def headW : Stm → Str
  | .above _ => "above"
  | .nought _ => "nought"
  | .goes _ _ => "goes"
  | .neg _ => "not"
  | .con o _ => conW o
  | .bnd o _ _ => bndW o
section
variable {K : PySem.W.Frag} {H : Hp}
theorem Dp.one1 {v : V} {d : PyData} {e : List PyData} (h : Dp K H v (.tuple (d :: e))) : ∃ a u us, v = .ref a ∧ SqT K H a (u :: us) ∧ Dp K H u d ∧ DpAll K H us e := by
  cases h with
  | tup hs ha =>
    cases ha with
    | cons h1 h2 => exact ⟨_, _, _, rfl, hs, h1, h2⟩
/-- a statement's tuple: its head, the rest -/
theorem Dp.stm {v : V} {a : Stm} (h : Dp K H v (toD a)) : ∃ p us, v = .ref p ∧ SqT K H p (.str (headW a) :: us) ∧ ∃ ds, toD a = .tuple (.str (headW a) :: ds) ∧ DpAll K H us ds := by
  have key : ∃ ds, toD a = .tuple (.str (headW a) :: ds) := by cases a <;> exact ⟨_, rfl⟩
  obtain ⟨ds, e⟩ := key
  rw [e] at h
  obtain ⟨p, u, us, rfl, h1, h2, h3⟩ := Dp.one1 h
  cases h2
  exact ⟨p, us, rfl, h1, ds, e, h3⟩
end
theorem im_toD : ∀ (n : Nat) (a : Stm), dep a ≤ n → Im (toD a)
  | 0, a, h => by cases a <;> simp [dep] at h
  | n + 1, a, h => by
    cases a with
    | above s => exact im_tup2 (.str _) (im_sum s)
    | nought s => exact im_tup2 (.str _) (im_sum s)
    | goes m s =>
      refine .tup fun d hd => ?_
      rcases List.mem_cons.mp hd with rfl | hd
      · exact .str _
      rcases List.mem_cons.mp hd with rfl | hd
      · exact .int _
      rcases List.mem_cons.mp hd with rfl | hd
      · exact im_sum s
      · cases hd
    | neg c => exact im_tup2 (.str _) (im_toD n c (Nat.le_of_succ_le_succ h))
    | con o l =>
      refine im_tup2 (.str _) ?_
      rw [toDs_map]
      exact im_map fun c hc => im_toD n c (Nat.le_trans (dep_in hc) (Nat.le_of_succ_le_succ h))
    | bnd o x c =>
      refine .tup fun d hd => ?_
      rcases List.mem_cons.mp hd with rfl | hd
      · exact .str _
      rcases List.mem_cons.mp hd with rfl | hd
      · exact .str _
      rcases List.mem_cons.mp hd with rfl | hd
      · exact im_toD n c (Nat.le_of_succ_le_succ h)
      · cases hd
theorem im_stm (a : Stm) : Im (toD a) := im_toD _ a (Nat.le_refl _)
/-! ### constants of the module -/
structure Cs (K : PySem.W.Frag) (mg : Str → Option Value) (oS bN : Addr) : Prop where
  c_OVER_SUMS : mg "OVER_SUMS" = some (.ref oS)
  c_BINDING : mg "BINDING" = some (.ref bN)
  s_OVER_SUMS : ∀ H, SqT K H oS [.str "above", .str "nought", .str "goes"]
  s_BINDING : ∀ H, SqT K H bN [.str "some", .str "all"]
def isEnd : Stm → Bool
  | .above _ => true
  | .nought _ => true
  | .goes _ _ => true
  | _ => false
def isNeg : Stm → Bool
  | .neg _ => true
  | _ => false
theorem in_over (a : Stm) : inV (.str (headW a)) [.str "above", .str "nought", .str "goes"] = isEnd a := by
  cases a with
  | above _ => show inV (.str "above") [.str "above", .str "nought", .str "goes"] = true; decide +kernel
  | nought _ => show inV (.str "nought") [.str "above", .str "nought", .str "goes"] = true; decide +kernel
  | goes _ _ => show inV (.str "goes") [.str "above", .str "nought", .str "goes"] = true; decide +kernel
  | neg _ => show inV (.str "not") [.str "above", .str "nought", .str "goes"] = false; decide +kernel
  | con o l =>
    cases o
    · show inV (.str "or") [.str "above", .str "nought", .str "goes"] = false; decide +kernel
    · show inV (.str "and") [.str "above", .str "nought", .str "goes"] = false; decide +kernel
  | bnd o x c =>
    cases o
    · show inV (.str "some") [.str "above", .str "nought", .str "goes"] = false; decide +kernel
    · show inV (.str "all") [.str "above", .str "nought", .str "goes"] = false; decide +kernel
theorem in_bind (a : Stm) : inV (.str (headW a)) [.str "some", .str "all"] = isB a := by
  cases a with
  | above _ => show inV (.str "above") [.str "some", .str "all"] = false; decide +kernel
  | nought _ => show inV (.str "nought") [.str "some", .str "all"] = false; decide +kernel
  | goes _ _ => show inV (.str "goes") [.str "some", .str "all"] = false; decide +kernel
  | neg _ => show inV (.str "not") [.str "some", .str "all"] = false; decide +kernel
  | con o l =>
    cases o
    · show inV (.str "or") [.str "some", .str "all"] = false; decide +kernel
    · show inV (.str "and") [.str "some", .str "all"] = false; decide +kernel
  | bnd o x c =>
    cases o
    · show inV (.str "some") [.str "some", .str "all"] = true; decide +kernel
    · show inV (.str "all") [.str "some", .str "all"] = true; decide +kernel
def isAb : Stm → Bool
  | .above _ => true
  | _ => false
theorem isAb_eq (a : Stm) : decide (headW a = "above") = isAb a := by
  cases a with
  | above _ => show decide (("above" : Str) = "above") = true; decide +kernel
  | nought _ => show decide (("nought" : Str) = "above") = false; decide +kernel
  | goes _ _ => show decide (("goes" : Str) = "above") = false; decide +kernel
  | neg _ => show decide (("not" : Str) = "above") = false; decide +kernel
  | con o l =>
    cases o
    · show decide (("or" : Str) = "above") = false; decide +kernel
    · show decide (("and" : Str) = "above") = false; decide +kernel
  | bnd o x c =>
    cases o
    · show decide (("some" : Str) = "above") = false; decide +kernel
    · show decide (("all" : Str) = "above") = false; decide +kernel
def isNo : Stm → Bool
  | .nought _ => true
  | _ => false
theorem isNo_eq (a : Stm) : decide (headW a = "nought") = isNo a := by
  cases a with
  | above _ => show decide (("above" : Str) = "nought") = false; decide +kernel
  | nought _ => show decide (("nought" : Str) = "nought") = true; decide +kernel
  | goes _ _ => show decide (("goes" : Str) = "nought") = false; decide +kernel
  | neg _ => show decide (("not" : Str) = "nought") = false; decide +kernel
  | con o l =>
    cases o
    · show decide (("or" : Str) = "nought") = false; decide +kernel
    · show decide (("and" : Str) = "nought") = false; decide +kernel
  | bnd o x c =>
    cases o
    · show decide (("some" : Str) = "nought") = false; decide +kernel
    · show decide (("all" : Str) = "nought") = false; decide +kernel
def isGo : Stm → Bool
  | .goes _ _ => true
  | _ => false
theorem isGo_eq (a : Stm) : decide (headW a = "goes") = isGo a := by
  cases a with
  | above _ => show decide (("above" : Str) = "goes") = false; decide +kernel
  | nought _ => show decide (("nought" : Str) = "goes") = false; decide +kernel
  | goes _ _ => show decide (("goes" : Str) = "goes") = true; decide +kernel
  | neg _ => show decide (("not" : Str) = "goes") = false; decide +kernel
  | con o l =>
    cases o
    · show decide (("or" : Str) = "goes") = false; decide +kernel
    · show decide (("and" : Str) = "goes") = false; decide +kernel
  | bnd o x c =>
    cases o
    · show decide (("some" : Str) = "goes") = false; decide +kernel
    · show decide (("all" : Str) = "goes") = false; decide +kernel
def isOr : Stm → Bool
  | .con false _ => true
  | _ => false
theorem isOr_eq (a : Stm) : decide (headW a = "or") = isOr a := by
  cases a with
  | above _ => show decide (("above" : Str) = "or") = false; decide +kernel
  | nought _ => show decide (("nought" : Str) = "or") = false; decide +kernel
  | goes _ _ => show decide (("goes" : Str) = "or") = false; decide +kernel
  | neg _ => show decide (("not" : Str) = "or") = false; decide +kernel
  | con o l =>
    cases o
    · show decide (("or" : Str) = "or") = true; decide +kernel
    · show decide (("and" : Str) = "or") = false; decide +kernel
  | bnd o x c =>
    cases o
    · show decide (("some" : Str) = "or") = false; decide +kernel
    · show decide (("all" : Str) = "or") = false; decide +kernel
def isAnd : Stm → Bool
  | .con true _ => true
  | _ => false
theorem isAnd_eq (a : Stm) : decide (headW a = "and") = isAnd a := by
  cases a with
  | above _ => show decide (("above" : Str) = "and") = false; decide +kernel
  | nought _ => show decide (("nought" : Str) = "and") = false; decide +kernel
  | goes _ _ => show decide (("goes" : Str) = "and") = false; decide +kernel
  | neg _ => show decide (("not" : Str) = "and") = false; decide +kernel
  | con o l =>
    cases o
    · show decide (("or" : Str) = "and") = false; decide +kernel
    · show decide (("and" : Str) = "and") = true; decide +kernel
  | bnd o x c =>
    cases o
    · show decide (("some" : Str) = "and") = false; decide +kernel
    · show decide (("all" : Str) = "and") = false; decide +kernel
def isSome : Stm → Bool
  | .bnd false _ _ => true
  | _ => false
theorem isSome_eq (a : Stm) : decide (headW a = "some") = isSome a := by
  cases a with
  | above _ => show decide (("above" : Str) = "some") = false; decide +kernel
  | nought _ => show decide (("nought" : Str) = "some") = false; decide +kernel
  | goes _ _ => show decide (("goes" : Str) = "some") = false; decide +kernel
  | neg _ => show decide (("not" : Str) = "some") = false; decide +kernel
  | con o l =>
    cases o
    · show decide (("or" : Str) = "some") = false; decide +kernel
    · show decide (("and" : Str) = "some") = false; decide +kernel
  | bnd o x c =>
    cases o
    · show decide (("some" : Str) = "some") = true; decide +kernel
    · show decide (("all" : Str) = "some") = false; decide +kernel
def isAll : Stm → Bool
  | .bnd true _ _ => true
  | _ => false
theorem isAll_eq (a : Stm) : decide (headW a = "all") = isAll a := by
  cases a with
  | above _ => show decide (("above" : Str) = "all") = false; decide +kernel
  | nought _ => show decide (("nought" : Str) = "all") = false; decide +kernel
  | goes _ _ => show decide (("goes" : Str) = "all") = false; decide +kernel
  | neg _ => show decide (("not" : Str) = "all") = false; decide +kernel
  | con o l =>
    cases o
    · show decide (("or" : Str) = "all") = false; decide +kernel
    · show decide (("and" : Str) = "all") = false; decide +kernel
  | bnd o x c =>
    cases o
    · show decide (("some" : Str) = "all") = false; decide +kernel
    · show decide (("all" : Str) = "all") = true; decide +kernel
theorem is_not (a : Stm) : decide (headW a = "not") = isNeg a := by
  cases a with
  | above _ => show decide (("above" : Str) = "not") = false; decide +kernel
  | nought _ => show decide (("nought" : Str) = "not") = false; decide +kernel
  | goes _ _ => show decide (("goes" : Str) = "not") = false; decide +kernel
  | neg _ => show decide (("not" : Str) = "not") = true; decide +kernel
  | con o l =>
    cases o
    · show decide (("or" : Str) = "not") = false; decide +kernel
    · show decide (("and" : Str) = "not") = false; decide +kernel
  | bnd o x c =>
    cases o
    · show decide (("some" : Str) = "not") = false; decide +kernel
    · show decide (("all" : Str) = "not") = false; decide +kernel
section
variable {K : PySem.W.Frag} {H : Hp} {Q : VK} {p : Addr} {xs : List V} {x : Str} {b : Bool}
theorem x_inT (h : SqT K H p xs) (e : inV (.str x) xs = b) (f : xs.all flatV = true) (q : Q (.bl b) H) : rIn K false (.str x) (.ref p) H Q := ⟨p, xs, rfl, .inr h, rfl, f, by subst e; exact q⟩
theorem x_ninT (h : SqT K H p xs) (e : inV (.str x) xs = b) (f : xs.all flatV = true) (q : Q (.bl (!b)) H) : rIn K true (.str x) (.ref p) H Q := ⟨p, xs, rfl, .inr h, rfl, f, by subst e; exact q⟩
theorem x_inL (h : SqL K H p xs) (e : inV (.str x) xs = b) (f : xs.all flatV = true) (q : Q (.bl b) H) : rIn K false (.str x) (.ref p) H Q := ⟨p, xs, rfl, .inl h, rfl, f, by subst e; exact q⟩
theorem x_ninL (h : SqL K H p xs) (e : inV (.str x) xs = b) (f : xs.all flatV = true) (q : Q (.bl (!b)) H) : rIn K true (.str x) (.ref p) H Q := ⟨p, xs, rfl, .inl h, rfl, f, by subst e; exact q⟩
end
/-! ### promises -/
def sp_parts (K : PySem.W.Frag) : Sp := fun vs H Q _ => ∃ (v : V) (a : Stm), vs = [v] ∧ Dp K H v (toD a) ∧ ∀ t H', Same H H' → Dp K H' (.ref t) (.tuple ((parts a).map toD)) → Q (.ref t) H'
/-- x stands free in a -/
inductive Fr (x : Str) : Stm → Prop
  | above {s : Sm} : x ∈ s.2.map (·.1) → Fr x (.above s)
  | nought {s : Sm} : x ∈ s.2.map (·.1) → Fr x (.nought s)
  | goes {m : Int} {s : Sm} : x ∈ s.2.map (·.1) → Fr x (.goes m s)
  | neg {a : Stm} : Fr x a → Fr x (.neg a)
  | con {o : Bool} {l : List Stm} {a : Stm} : a ∈ l → Fr x a → Fr x (.con o l)
  | bnd {o : Bool} {y : Str} {a : Stm} : x ≠ y → Fr x a → Fr x (.bnd o y a)
/-- the sum of an end -/
def sumOf : Stm → Sm
  | .above s => s
  | .nought s => s
  | .goes _ s => s
  | _ => (0, [])
/-- the name that is bound at the head -/
def bndOf : Stm → List Str
  | .bnd _ x _ => [x]
  | _ => []
theorem fr_iff (x : Str) (a : Stm) : Fr x a ↔ (isEnd a = true ∧ x ∈ (sumOf a).2.map (·.1)) ∨ (x ∉ bndOf a ∧ ∃ b ∈ parts a, Fr x b) := by
  constructor
  · intro h
    cases h with
    | above h => exact .inl ⟨rfl, h⟩
    | nought h => exact .inl ⟨rfl, h⟩
    | goes h => exact .inl ⟨rfl, h⟩
    | neg h => exact .inr ⟨by simp [bndOf], _, by simp [parts], h⟩
    | con hm h => exact .inr ⟨by simp [bndOf], _, hm, h⟩
    | bnd hn h => exact .inr ⟨by simpa [bndOf] using hn, _, by simp [parts], h⟩
  · rintro (⟨e, h⟩ | ⟨hn, b, hb, h⟩)
    · cases a with
      | above s => exact .above h
      | nought s => exact .nought h
      | goes m s => exact .goes h
      | neg c | con o l | bnd o y c => cases e
    · cases a with
      | above | nought | goes => cases hb
      | neg c =>
        have e : b = c := by simpa [parts] using hb
        subst e
        exact .neg h
      | con o l => exact .con hb h
      | bnd o y c =>
        have e : b = c := by simpa [parts] using hb
        subst e
        exact .bnd (by simpa [bndOf] using hn) h
/-- a dict of names, each with True -/
def kOf (ys : List Str) : List (Key × V) := ys.map fun y => (Sum.inr y, V.bl true)
theorem kOf_val (ys : List Str) (x : Str) : valV (kOf ys) (Sum.inr x : Key) = if x ∈ ys then some (.bl true) else none := by
  unfold valV kOf
  rw [List.find?_map]
  have : ((fun kv : Key × V => decide (kv.1 = Sum.inr x)) ∘ fun y : Str => ((Sum.inr y : Key), V.bl true)) = fun y : Str => decide (y = x) := by
    funext y
    exact inr_dec _ _
  rw [this]
  by_cases h : x ∈ ys
  · rw [if_pos h]
    cases e : ys.find? (fun y => decide (y = x)) with
    | none => exact absurd (List.find?_eq_none.mp e x h) (by simp)
    | some y => rfl
  · rw [if_neg h]
    have e : ys.find? (fun y => decide (y = x)) = none := List.find?_eq_none.mpr fun y hy => by
      simp only [decide_eq_true_eq]
      exact fun c => h (by rw [← c]; exact hy)
    rw [e]
    rfl
theorem kOf_put (ys : List Str) (x : Str) : putK (kOf ys) (Sum.inr x : Key) (V.bl true) = kOf (if x ∈ ys then ys else ys ++ [x]) := by
  unfold putK
  have ea : ((kOf ys).any fun kv => decide (kv.1 = (Sum.inr x : Key))) = decide (x ∈ ys) := by
    rw [valV_any, kOf_val]
    split <;> simp_all
  rw [ea]
  by_cases h : x ∈ ys
  · rw [if_pos (by simpa using h), if_pos h]
    unfold kOf
    rw [List.map_map]
    refine List.map_congr_left fun y _ => ?_
    show (if (Sum.inr y : Key) = Sum.inr x then ((Sum.inr y : Key), V.bl true) else ((Sum.inr y : Key), V.bl true)) = _
    split <;> rfl
  · rw [if_neg (by simpa using h), if_neg h]
    unfold kOf
    rw [List.map_append]
    rfl
theorem nd_len : ∀ {xs ys : List Str}, xs.Nodup → (∀ x ∈ xs, x ∈ ys) → xs.length ≤ ys.length
  | [], _, _, _ => Nat.zero_le _
  | x :: xs, ys, nd, h => by
    have nd' := List.nodup_cons.mp nd
    have hx := h x (List.mem_cons_self ..)
    have h2 := nd_len (xs := xs) (ys := ys.erase x) nd'.2 fun y hy => (List.mem_erase_of_ne (fun e => nd'.1 (by rw [← e]; exact hy))).mpr (h y (List.mem_cons_of_mem _ hy))
    rw [List.length_erase_of_mem hx] at h2
    have := List.length_pos_of_mem hx
    rw [List.length_cons]
    omega
/-- all but d stays -/
def But (d : Addr) (H H' : Hp) : Prop := ∀ c o, c ≠ d → H c = some o → H' c = some o
theorem But.refl (d : Addr) (H : Hp) : But d H H := fun _ _ _ h => h
theorem But.trans {d : Addr} {H H1 H2 : Hp} (a : But d H H1) (b : But d H1 H2) : But d H H2 := fun c o n h => b c o n (a c o n h)
theorem Same.but {d : Addr} {H H1 : Hp} (a : Same H H1) : But d H H1 := fun c o _ h => a c o h
theorem But.upd {d : Addr} {H : Hp} {o : HO} : But d H (upd H d o) := fun c o' n h => by rw [upd_ne n]; exact h
theorem But.keeps {d : Addr} {H H1 : Hp} {ks : List (Key × V)} (a : But d H H1) (h : H d = some (.dK ks)) : Keeps H H1 := fun c u k e => by
  refine a c u (fun q => ?_) e
  subst q
  rw [h] at e
  cases e
  rcases k with ⟨_, k⟩ | ⟨_, _, k⟩ <;> cases k
theorem but_same {d : Addr} {H H1 H2 : Hp} (e : Same H H1) (b : But d H1 H2) (h : H d = none) : Same H H2 := fun c o q => b c o (fun z => by subst z; rw [h] at q; cases q) (e c o q)
/-- names found: those of the dict, and those that stand free -/
def sp_find_free (n : Nat) (K : PySem.W.Frag) (nm : List Str) : Sp := fun vs H Q _ => ∃ (v : V) (b d : Addr) (a : Stm) (bs ys : List Str), vs = [v, .ref b, .ref d] ∧ Dp K H v (toD a) ∧ SqT K H b (bs.map V.str) ∧ bs.length + dep a ≤ 1000 ∧ H d = some (.dK (kOf ys)) ∧ ys.Nodup ∧ (∀ y ∈ ys, y ∈ nm) ∧
  Ev (fun s => ∀ x ∈ s.2.map (·.1), x ∈ nm) a ∧ dep a ≤ n ∧ ∀ H' zs, But d H H' → H' d = some (.dK (kOf zs)) → zs.Nodup → (∀ y ∈ zs, y ∈ nm) → (∀ x, x ∈ zs ↔ x ∈ ys ∨ (x ∉ bs ∧ Fr x a)) → Q .non H'
theorem end_sum {K : PySem.W.Frag} {H : Hp} {v : V} {a : Stm} (e : isEnd a = true) (h : Dp K H v (toD a)) : ∃ p us u, v = .ref p ∧ SqT K H p us ∧ atI us (-1) = some u ∧ Dp K H u (sumD (sumOf a)) := by
  cases a with
  | neg c | con o l | bnd o y c => cases e
  | above s | nought s =>
    obtain ⟨p, u, us, rfl, h1, h2, h3⟩ := Dp.one1 h
    cases h3 with
    | cons g1 g2 =>
    cases g2
    exact ⟨p, _, _, rfl, h1, rfl, g1⟩
  | goes m s =>
    obtain ⟨p, u, us, rfl, h1, h2, h3⟩ := Dp.one1 h
    cases h3 with
    | cons g1 g2 =>
    cases g2 with
    | cons g3 g4 =>
    cases g4
    exact ⟨p, _, _, rfl, h1, rfl, g3⟩
def sp_unknowns (K : PySem.W.Frag) (nm : List Str) : Sp := fun vs H Q _ => ∃ (v : V) (a : Stm), vs = [v] ∧ Dp K H v (toD a) ∧ Ev (fun s => ∀ x ∈ s.2.map (·.1), x ∈ nm) a ∧ dep a ≤ 60 ∧
  ∀ l H' zs, H l = none → Same H H' → Rising zs → (∀ x, x ∈ zs ↔ Fr x a) → H' l = some (.lst (zs.map V.str)) → Q (.ref l) H'
def sp_is_plain (n : Nat) (K : PySem.W.Frag) : Sp := fun vs H Q _ => ∃ (v : V) (a : Stm), vs = [v] ∧ Dp K H v (toD a) ∧ dep a ≤ n ∧ ∀ H', Same H H' → Q (.bl (plainB a)) H'
theorem inStrs (x : Str) (ys : List Str) (zs : List V) (e : zs = ys.map V.str) : inV (.str x) zs = decide (x ∈ ys) := by rw [e, inV_str]
/-! ### truth -/
mutual
def tru (f : Str → Int) : Stm → Bool
  | .above s => decide (0 < valS f s)
  | .nought s => decide (valS f s = 0)
  | .goes m s => decide (valS f s % m = 0)
  | .neg a => !tru f a
  | .con o l => if o = true then truAll f l else truAny f l
  | .bnd _ _ _ => false
def truAll (f : Str → Int) : List Stm → Bool
  | [] => true
  | a :: l => tru f a && truAll f l
def truAny (f : Str → Int) : List Stm → Bool
  | [] => false
  | a :: l => tru f a || truAny f l
end
theorem truAll_eq (f : Str → Int) : ∀ l, truAll f l = l.all (tru f)
  | [] => rfl
  | a :: l => by rw [List.all_cons, ← truAll_eq f l]; rfl
theorem truAny_eq (f : Str → Int) : ∀ l, truAny f l = l.any (tru f)
  | [] => rfl
  | a :: l => by rw [List.any_cons, ← truAny_eq f l]; rfl
/-- an end's truth by its sum's value -/
def truN (k : Int) : Stm → Bool
  | .above _ => decide (0 < k)
  | .nought _ => decide (k = 0)
  | .goes m _ => decide (k % m = 0)
  | _ => false
def sp_goes_into : Sp := fun vs H Q _ => ∃ m k : Int, vs = [.int m, .int k] ∧ 0 < m ∧ Q (.bl (decide (k % m = 0))) H
def sp_truN (K : PySem.W.Frag) : Sp := fun vs H Q _ => ∃ (v : V) (a : Stm) (k : Int), vs = [v, .int k] ∧ Dp K H v (toD a) ∧ isEnd a = true ∧ (∀ m s, a = .goes m s → 0 < m) ∧ Q (.bl (truN k a)) H
/-- sums that may be reckoned under m -/
def OkS (m : List Pr) (s : Sm) : Prop := SmlS s ∧ ∀ p ∈ s.2, p.1 ∈ m.map (·.1) ∧ p.1.length ≤ 1000
def sp_truth (n : Nat) (K : PySem.W.Frag) : Sp := fun vs H Q _ => ∃ (v : V) (d : Addr) (a : Stm) (m : List Pr), vs = [v, .ref d] ∧ Dp K H v (toD a) ∧ H d = some (.dK (dOf m)) ∧ (∀ q ∈ m, Sml q.2) ∧ Ev (OkS m) a ∧ plainB a = true ∧ dep a ≤ n ∧ Q (.bl (tru (look m) a)) H
def sp_refuse (K : PySem.W.Frag) (NP : Addr) : Sp := fun vs H Q E => ∃ (v : V) (a : Stm), vs = [v] ∧ Dp K H v (toD a) ∧ dep a ≤ 60 ∧ (plainB a = true → ∀ H', Same H H' → Q .non H') ∧ (plainB a = false → ∀ H', Same H H' → E (.ref NP) none H')
/-- refuse_without_values of names zs -/
def sp_novals (K : PySem.W.Frag) (NV : Addr) : Sp := fun vs H Q E => ∃ (l d : Addr) (zs : List Str) (m : List Pr), vs = [.ref l, .ref d] ∧ SqL K H l (zs.map V.str) ∧ H d = some (.dK (dOf m)) ∧ (∀ x ∈ zs, x.length ≤ 1000) ∧ ((∀ x ∈ zs, x ∈ m.map (·.1)) → ∀ H', Same H H' → Q .non H') ∧ ((∃ x ∈ zs, x ∉ m.map (·.1)) → ∀ H', Same H H' → E (.ref NV) none H')
/-- names of the values are among nm -/
def sp_is_true (K : PySem.W.Frag) (nm : List Str) (NV NP : Addr) : Sp := fun vs H Q E => ∃ (v : V) (d : Addr) (a : Stm) (m : List Pr), vs = [v, .ref d] ∧ Dp K H v (toD a) ∧ H d = some (.dK (dOf m)) ∧ (∀ q ∈ m, Sml q.2) ∧ Ev (fun s => SmlS s ∧ ∀ x ∈ s.2.map (·.1), x ∈ nm) a ∧ dep a ≤ 60 ∧
  (plainB a = false → ∀ H', Same H H' → E (.ref NP) none H') ∧ (plainB a = true → (∃ x, XS.Fr x a ∧ x ∉ m.map (·.1)) → ∀ H', Same H H' → E (.ref NV) none H') ∧ (plainB a = true → (∀ x, XS.Fr x a → x ∈ m.map (·.1)) → ∀ H', Same H H' → Q (.bl (tru (look m) a)) H')
theorem ev_free {p : Sm → Prop} {M : List Str} {a : Stm} (e : Ev p a) : plainB a = true → (∀ x, XS.Fr x a → x ∈ M) → Ev (fun s => p s ∧ ∀ x ∈ s.2.map (·.1), x ∈ M) a := by
  induction e with
  | above h => exact fun _ f => .above ⟨h, fun x hx => f x (.above hx)⟩
  | nought h => exact fun _ f => .nought ⟨h, fun x hx => f x (.nought hx)⟩
  | goes h h2 => exact fun _ f => .goes ⟨h, fun x hx => f x (.goes hx)⟩ h2
  | neg _ ih => exact fun pl f => .neg (ih (plain_part pl (by simp [XS.parts])) fun x hx => f x (.neg hx))
  | con _ hl ih => exact fun pl f => .con (fun c hc => ih c hc (plain_part pl hc) fun x hx => f x (.con hc hx)) hl
  | bnd _ _ => exact fun pl _ => by cases pl
theorem fr_in {M : List Str} {a : Stm} (e : Ev (fun s => ∀ x ∈ s.2.map (·.1), x ∈ M) a) {x : Str} (f : XS.Fr x a) : x ∈ M := by
  induction e with
  | above h => cases f with | above f => exact h x f
  | nought h => cases f with | nought f => exact h x f
  | goes h _ => cases f with | goes f => exact h x f
  | neg _ ih => cases f with | neg f => exact ih f
  | con _ _ ih => cases f with | con hc f => exact ih _ hc f
  | bnd _ ih => cases f with | bnd _ f => exact ih f
end XS

namespace XS
open PySem PySem.Spec PyProof.Rows L2
/-- once a tuple is the tuple -/
theorem once_tup (l : Addr) (its : Array Value) (m : Nat) (od : Option Addr) (slt : Array (Option Value)) (tk : Tok) : Meets (Builtin.«tuple.__mul__» ⟨[.ref l, .int 1 tk], []⟩) (fun _ R s => s.heap.get? l = some { cls := .type "tuple", dict := od, data := .seq its m, slots := slt } ∧ R (.ok (.ret (.ref l))) s) :=
  .of_wp fun prog w A R s0 hh => by
    obtain ⟨hp, gl, dd, tt, oo⟩ := s0
    obtain ⟨e0, hR⟩ := hh
    have idx := AutoSeq1.idx_int
    have yes : (its.isEmpty || (1 : Int) == 1) = true := by simp
    (wp_walk using wpAny_loadPart' e0); exact ⟨_, rfl, hR⟩
/-- t * k, k at least 1 -/
def rRepU (K : PySem.W.Frag) : R2 := fun x y H Q => ∃ l k xs, x = .ref l ∧ y = .int k ∧ SqT K H l xs ∧ xs ≠ [] ∧ 1 ≤ k ∧ k ≤ 1000 ∧ xs.length ≤ 1000 ∧ (k = 1 → Q (.ref l) H) ∧ (2 ≤ k → ∀ p, H p = none → Q (.ref p) (upd H p (.tup (List.replicate k.toNat xs).flatten)))
theorem op_repU {X : Cx} (K : PySem.W.Frag) (hK : X.K = K := by rfl) : OpR X (binaryOp .Mult) (rRepU K) := by
  subst hK
  intro pins s σ H x y v u Q I rx ry h
  obtain ⟨l, k, xs, ex, ey, hT, hne, h1, h2, hz, qa, qb⟩ := h
  by_cases hk : k = 1
  · subst hk ex ey
    cases rx
    obtain ⟨tk, rfl⟩ := ry
    obtain ⟨its, r, ⟨⟨co, od, da, slt⟩, ho, hc, m, hd⟩, hs⟩ := I.tuple hT
    simp only at hc hd
    subst hc hd
    refine wpAny_binaryOp_repeat_ref (T := "tuple") (U := "int") (by decide) ⟨_, ho, rfl⟩ (fun z => typeIs_int z 1 tk) noFill_tuple_mul F.fills_int_mul F.slot_int_rmul repeat_tuple F.slot_int_index.lookup ?_
    refine call_meets F.slot_int_rmul (typeIs_int s 1 tk) F.entry_int_rmul (F.args_int_rmul_2 _ _) (int_rmul_tuple 1 tk l its.toArray m od slt) ⟨ho, rfl, ⟨_, ho, rfl⟩, ?_⟩
    exact call_meets F.slot_tuple_mul ⟨_, ho, rfl⟩ F.entry_tuple_mul (F.args_tuple_mul_2 _ _) (once_tup l its.toArray m od slt tk) ⟨ho, .ref l, H, I, rfl, qa rfl⟩
  · exact op_repT pins s σ H x y v u Q I rx ry ⟨l, k, xs, ex, ey, hT, hne, by omega, h2, hz, qb (by omega)⟩
section
variable {K : PySem.W.Frag} {H : Hp} {Q : VK} {l a b : Addr} {k : Int} {xs ys : List V}
theorem x_repU (h : SqT K H l xs) (hne : xs ≠ []) (h1 : 1 ≤ k) (h2 : k ≤ 1000) (hz : xs.length ≤ 1000) (q : ∀ p H', Same H H' → SqT K H' p (List.replicate k.toNat xs).flatten → Q (.ref p) H') : rRepU K (.ref l) (.int k) H Q :=
  ⟨l, k, xs, rfl, rfl, h, hne, h1, h2, hz, fun e => q l H (Same.refl _) (by subst e; simpa using h), fun _ p hp => q p _ (same_upd hp) (SqT.of upd_same)⟩
theorem x_catA (h1 : SqT K H a xs) (h2 : SqT K H b ys) (n1 : xs ≠ []) (n2 : ys ≠ []) (hz : xs.length + ys.length ≤ 100000) (q : ∀ p H', Same H H' → H' p = some (.tup (xs ++ ys)) → Q (.ref p) H') : rCatA K (.ref a) (.ref b) H Q :=
  ⟨a, b, xs, ys, rfl, rfl, h1, h2, sz hz, fun e => absurd e n1, fun _ e => absurd e n2, fun _ _ p hp => q p _ (same_upd hp) upd_same⟩
end
theorem DpAll.rep {K : PySem.W.Frag} {H : Hp} {v : V} {d : PyData} (h : Dp K H v d) : ∀ n : Nat, DpAll K H (List.replicate n v) (List.replicate n d)
  | 0 => .nil
  | n + 1 => .cons h (DpAll.rep h n)
theorem rep_one {α : Type} (x : α) : ∀ n : Nat, (List.replicate n [x]).flatten = List.replicate n x
  | 0 => rfl
  | n + 1 => by rw [List.replicate_succ, List.flatten_cons, rep_one x n]; rfl
end XS

namespace XS
open PySem PySem.Spec PyProof.Rows L2
/-! ### the statements that the law draws -/
def endBy (c : Int) (nm : List Str) (wd most : Int) : Stm :=
  if c % 4 = 3 then .nought (sumBy (c / 12) nm wd) else if c % 4 = 2 then .goes (1 + c / 4 % most) (sumBy (c / 12) nm wd) else .above (sumBy (c / 12) nm wd)
def turnW (way c : Int) (e a : Stm) : Stm :=
  if way = 0 then .con true [a, e] else if way = 1 then .con false [a, e] else if way = 2 then .con false [.neg a, e] else if way = 3 then .neg (.con true [e, a, .con true []])
  else if way = 4 then .con true [.con false [e, a], .neg e] else if way = 5 then .con false [e, .con false [], a] else if way = 6 then .con true [.neg (.neg a), .neg e]
  else if way = 7 then .con true [.con false [a], .con false [.con true [e]]] else .con (decide (c / 9 % 2 = 0)) ([e, e, a] ++ List.replicate (1 + c / 18 % 18).toNat e)
def turnBy (ns : List Int) (first : Int) (nm : List Str) (wd most : Int) (a : Stm) (i : Nat) : Stm :=
  turnW ((cell ns (first + (1 + i)) + 104729 * (1 + i)) % 9) (cell ns (first + (1 + i)) + 104729 * (1 + i)) (endBy ((cell ns (first + (1 + i)) + 104729 * (1 + i)) / 9) nm wd most) a
def namesFor (b : Int) (nm : List Str) : List Str := if b % 13 = 12 then [] else nm
def plainRun (ns : List Int) (first : Int) (nm : List Str) (wd most : Int) : Nat → Stm
  | 0 => endBy (cell ns first) nm wd most
  | n + 1 => turnBy ns first nm wd most (plainRun ns first nm wd most n) n
def plainBy (ns : List Int) (first count : Int) (nm : List Str) (wd most : Int) : Stm :=
  if cell ns first % 26 = 25 then .con true [] else plainRun ns first (namesFor (cell ns first) nm) wd most (count - 1).toNat
def sp_end_by (K : PySem.W.Frag) : Sp := fun vs H Q _ => ∃ (c wd most : Int) (nl : Addr) (names : List Str), vs = [.int c, .ref nl, .int wd, .int most] ∧ SqL K H nl (names.map V.str) ∧ names.Nodup ∧ names.length ≤ 8 ∧ 0 ≤ wd ∧ wd ≤ 1000 ∧ 0 < most ∧
  ∀ t H', Same H H' → Dp K H' (.ref t) (toD (endBy c names wd most)) → Q (.ref t) H'
def sp_plain_by (K : PySem.W.Frag) : Sp := fun vs H Q _ => ∃ (a : Addr) (ns : List Int) (first count wd most : Int) (nl : Addr) (names : List Str), vs = [.ref a, .int first, .int count, .ref nl, .int wd, .int most] ∧ SqL K H a (ns.map V.int) ∧ 0 ≤ first ∧ first ≤ 1000 ∧ 1 ≤ count ∧ count ≤ 12 ∧
  SqL K H nl (names.map V.str) ∧ names.Nodup ∧ names.length ≤ 8 ∧ 0 ≤ wd ∧ wd ≤ 1000 ∧ 0 < most ∧ ∀ t H', Same H H' → Dp K H' (.ref t) (toD (plainBy ns first count names wd most)) → Q (.ref t) H'
theorem endBy_is (c : Int) (nm : List Str) (wd most : Int) : isEnd (endBy c nm wd most) = true ∧ dep (endBy c nm wd most) = 1 ∧ plainB (endBy c nm wd most) = true := by
  unfold endBy
  split
  · exact ⟨rfl, rfl, rfl⟩
  · split <;> exact ⟨rfl, rfl, rfl⟩
theorem endBy_ev {p : Sm → Prop} (c : Int) (nm : List Str) (wd most : Int) (hm : 0 < most) (h : p (sumBy (c / 12) nm wd)) : Ev p (endBy c nm wd most) := by
  unfold endBy
  split
  · exact .nought h
  · split
    · exact .goes h (by have := Int.emod_nonneg (c / 4) (by omega : most ≠ 0); omega)
    · exact .above h
section
variable {K : PySem.W.Frag} {H : Hp}
theorem Dp.mkAbove {t : Addr} {u : V} {s : Sm} (h : SqT K H t [.str "above", u]) (g : Dp K H u (sumD s)) : Dp K H (.ref t) (toD (.above s)) := .tup h (.cons (.str _) (.one g))
theorem Dp.mkNought {t : Addr} {u : V} {s : Sm} (h : SqT K H t [.str "nought", u]) (g : Dp K H u (sumD s)) : Dp K H (.ref t) (toD (.nought s)) := .tup h (.cons (.str _) (.one g))
theorem Dp.mkGoes {t : Addr} {u : V} {m : Int} {s : Sm} (h : SqT K H t [.str "goes", .int m, u]) (g : Dp K H u (sumD s)) : Dp K H (.ref t) (toD (.goes m s)) := .tup h (.cons (.str _) (.cons (.int _) (.one g)))
theorem Dp.mkNeg {t : Addr} {u : V} {a : Stm} (h : SqT K H t [.str "not", u]) (g : Dp K H u (toD a)) : Dp K H (.ref t) (toD (.neg a)) := .tup h (.cons (.str _) (.one g))
theorem Dp.mkCon {t r : Addr} {us : List V} {o : Bool} {l : List Stm} {w : Str} (h : SqT K H t [.str w, .ref r]) (hw : w = conW o) (h2 : SqT K H r us) (g : DpAll K H us (l.map toD)) : Dp K H (.ref t) (toD (.con o l)) := by
  subst hw
  refine .tup h (.cons (.str _) (.one ?_))
  rw [toDs_map]
  exact .tup h2 g
theorem Dp.mkBnd {t : Addr} {u : V} {o : Bool} {x : Str} {a : Stm} {w : Str} (h : SqT K H t [.str w, .str x, u]) (hw : w = bndW o) (g : Dp K H u (toD a)) : Dp K H (.ref t) (toD (.bnd o x a)) := by
  subst hw
  exact .tup h (.cons (.str _) (.cons (.str _) (.one g)))
end
end XS
namespace XS
open PySem PySem.Spec PyProof.Rows L2
def sp_lfree (n : Nat) (K : PySem.W.Frag) (nm : List Str) : Sp := fun vs H Q _ => ∃ (v : V) (b : Addr) (a : Stm) (bs : List Str), vs = [v, .ref b] ∧ Dp K H v (toD a) ∧ H b = some (.lst (bs.map V.str)) ∧ bs.length + dep a ≤ 1000 ∧ Ev (fun s => (∀ x ∈ s.2.map (·.1), x ∈ nm) ∧ (s.2.map (·.1)).Nodup) a ∧ dep a ≤ n ∧
  ∀ l H' (zs : List Str), Same H H' → H l = none → H' l = some (.lst (zs.map V.str)) → zs.Nodup → (∀ x, x ∈ zs ↔ x ∉ bs ∧ XS.Fr x a) → Q (.ref l) H'
theorem fr_end {x : Str} {a : Stm} (e : isEnd a = true) : XS.Fr x a ↔ x ∈ (sumOf a).2.map (·.1) := by
  rw [fr_iff]
  have hp : parts a = [] := by cases a <;> first | rfl | cases e
  rw [hp, e]
  simp
def boundBy (c : Int) (a : Stm) (names : List Str) : Stm :=
  let i := Stm.bnd (decide (c % 2 = 1)) (names.getD (c / 2 % 4).toNat "") a
  if c / 8 % 4 = 0 then i else if c / 8 % 4 = 1 then .neg i else if c / 8 % 4 = 2 then .con true [a, i] else .con false [.con true [], .neg (.con false [i, a])]
def sp_bound_by (K : PySem.W.Frag) : Sp := fun vs H Q _ => ∃ (c : Int) (v : V) (nl : Addr) (a : Stm) (names : List Str), vs = [.int c, v, .ref nl] ∧ Dp K H v (toD a) ∧ SqL K H nl (names.map V.str) ∧ names.length = 4 ∧ ∀ t H', Same H H' → Dp K H' (.ref t) (toD (boundBy c a names)) → Q (.ref t) H'
/-- an end whose sum comes near nought -/
def edgeOne (c : Int) (nm : List Str) (m : List Pr) : Sm := ((sumBy (c / 12) nm 3).1 - valS (look m) (sumBy (c / 12) nm 3) + c % 3 - 1, (sumBy (c / 12) nm 3).2)
def edgeEnd (c : Int) (nm : List Str) (m : List Pr) : Stm := if c / 3 % 3 = 0 then .above (edgeOne c nm m) else if c / 3 % 3 = 1 then .nought (edgeOne c nm m) else .goes (1 + c / 9 % 40) (edgeOne c nm m)
def edgeBy (c : Int) (nm : List Str) (m : List Pr) : Stm := if c / 7 % 2 = 1 then .neg (edgeEnd c nm m) else edgeEnd c nm m
def sp_edge_by (K : PySem.W.Frag) : Sp := fun vs H Q _ => ∃ (c : Int) (nl d : Addr) (names : List Str) (m : List Pr), vs = [.int c, .ref nl, .ref d] ∧ SqL K H nl (names.map V.str) ∧ names.Nodup ∧ names.length ≤ 8 ∧ H d = some (.dK (dOf m)) ∧ (∀ q ∈ m, Sml q.2) ∧ (∀ x ∈ names, x ∈ m.map (·.1)) ∧
  ∀ t H', Same H H' → Dp K H' (.ref t) (toD (edgeBy c names m)) → Q (.ref t) H'
/-- what is_true answers: True or False, or the word of its refusal -/
def sp_answer (K : PySem.W.Frag) (nm : List Str) : Sp := fun vs H Q _ => ∃ (v : V) (d : Addr) (a : Stm) (m : List Pr), vs = [v, .ref d] ∧ Dp K H v (toD a) ∧ H d = some (.dK (dOf m)) ∧ (∀ q ∈ m, Sml q.2) ∧ Ev (fun s => SmlS s ∧ ∀ x ∈ s.2.map (·.1), x ∈ nm) a ∧ dep a ≤ 60 ∧
  (plainB a = false → ∀ H', Same H H' → Q (.str "not plain") H') ∧ (plainB a = true → (∃ x, XS.Fr x a ∧ x ∉ m.map (·.1)) → ∀ H', Same H H' → Q (.str "no value") H') ∧ (plainB a = true → (∀ x, XS.Fr x a → x ∈ m.map (·.1)) → ∀ H', Same H H' → Q (.bl (tru (look m) a)) H')
end XS

namespace XS
open PySem PySem.Spec PyProof.Rows L2
/-! ### what is drawn is right -/
/-- a drawn sum: of the names nm, each once -/
def DrS (nm : List Str) (s : Sm) : Prop := SmlS s ∧ (∀ x ∈ s.2.map (·.1), x ∈ nm) ∧ (s.2.map (·.1)).Nodup
/-- sums p, plain, at most n deep -/
structure Good (p : Sm → Prop) (n : Nat) (a : Stm) : Prop where
  ev : Ev p a
  pl : plainB a = true
  dp : dep a ≤ n
theorem Good.mono {p : Sm → Prop} {n m : Nat} {a : Stm} (g : Good p n a) (h : n ≤ m) : Good p m a := ⟨g.ev, g.pl, Nat.le_trans g.dp h⟩
theorem Good.neg {p : Sm → Prop} {n : Nat} {a : Stm} (g : Good p n a) : Good p (n + 1) (.neg a) := ⟨.neg g.ev, g.pl, Nat.succ_le_succ g.dp⟩
theorem Good.con {p : Sm → Prop} {n : Nat} {o : Bool} {l : List Stm} (g : ∀ a ∈ l, Good p n a) (hl : l.length ≤ 64) : Good p (n + 1) (.con o l) :=
  ⟨.con (fun a ha => (g a ha).ev) hl, by show plainBs l = true; rw [plainBs_all]; exact List.all_eq_true.mpr fun a ha => (g a ha).pl, Nat.succ_le_succ (deps_le fun a ha => (g a ha).dp)⟩
theorem Good.con0 {p : Sm → Prop} {n : Nat} {o : Bool} : Good p (n + 1) (.con o []) := Good.con (fun a ha => by cases ha) (by simp)
theorem Good.con1 {p : Sm → Prop} {n : Nat} {o : Bool} {a : Stm} (g : Good p n a) : Good p (n + 1) (.con o [a]) := Good.con (fun b hb => by rw [List.mem_singleton.mp hb]; exact g) (by simp)
theorem Good.con2 {p : Sm → Prop} {n : Nat} {o : Bool} {a b : Stm} (g : Good p n a) (h : Good p n b) : Good p (n + 1) (.con o [a, b]) := Good.con (fun c hc => by
  rcases List.mem_cons.mp hc with rfl | hc
  · exact g
  · rw [List.mem_singleton.mp hc]; exact h) (by simp)
theorem Good.con3 {p : Sm → Prop} {n : Nat} {o : Bool} {a b c : Stm} (g : Good p n a) (h : Good p n b) (k : Good p n c) : Good p (n + 1) (.con o [a, b, c]) := Good.con (fun d hd => by
  rcases List.mem_cons.mp hd with rfl | hd
  · exact g
  rcases List.mem_cons.mp hd with rfl | hd
  · exact h
  · rw [List.mem_singleton.mp hd]; exact k) (by simp)
theorem endBy_good {p : Sm → Prop} {c wd most : Int} {nm : List Str} (hm : 0 < most) (h : p (sumBy (c / 12) nm wd)) : Good p 1 (endBy c nm wd most) := ⟨endBy_ev c nm wd most hm h, (endBy_is c nm wd most).2.2, Nat.le_of_eq (endBy_is c nm wd most).2.1⟩
theorem turnW_good {p : Sm → Prop} {way c : Int} {e a : Stm} {n : Nat} (ge : Good p (n + 1) e) (ga : Good p (n + 1) a) : Good p (n + 4) (turnW way c e a) := by
  have u {m k : Nat} {b : Stm} (g : Good p m b) (h : m ≤ k) : Good p k b := g.mono h
  have E2 := u ge (by omega : n + 1 ≤ n + 2)
  have A2 := u ga (by omega : n + 1 ≤ n + 2)
  have E3 := u ge (by omega : n + 1 ≤ n + 3)
  have A3 := u ga (by omega : n + 1 ≤ n + 3)
  unfold turnW
  split
  · exact Good.con2 A3 E3
  split
  · exact Good.con2 A3 E3
  split
  · exact Good.con2 A2.neg E3
  split
  · exact (Good.con3 E2 A2 Good.con0).neg
  split
  · exact Good.con2 (Good.con2 E2 A2) E2.neg
  split
  · exact Good.con3 E3 Good.con0 A3
  split
  · exact Good.con2 ga.neg.neg E2.neg
  split
  · exact Good.con2 (Good.con1 A2) (Good.con1 (Good.con1 ge))
  · refine Good.con (n := n + 3) (fun b hb => ?_) ?_
    · rcases List.mem_append.mp hb with hb | hb
      · rcases List.mem_cons.mp hb with rfl | hb
        · exact E3
        rcases List.mem_cons.mp hb with rfl | hb
        · exact E3
        · rw [List.mem_singleton.mp hb]; exact A3
      · rw [List.eq_of_mem_replicate hb]; exact E3
    · have h1 := Int.emod_lt_of_pos (c / 18) (by decide : (0 : Int) < 18)
      rw [List.length_append, List.length_replicate]
      show 3 + _ ≤ 64
      omega
theorem plainRun_good {p : Sm → Prop} {ns : List Int} {first wd most : Int} {nm : List Str} (hm : 0 < most) (h : ∀ c, p (sumBy c nm wd)) : ∀ i : Nat, Good p (1 + 3 * i) (plainRun ns first nm wd most i)
  | 0 => endBy_good hm (h _)
  | i + 1 => by
    have e : 1 + 3 * (i + 1) = 3 * i + 4 := by omega
    rw [e]
    have ih := plainRun_good (ns := ns) (first := first) hm h i
    exact turnW_good (n := 3 * i) ((endBy_good hm (h _)).mono (by omega)) (ih.mono (by omega))
theorem plainBy_good {p : Sm → Prop} {ns : List Int} {first count wd most : Int} {nm : List Str} (hm : 0 < most) (h : ∀ c nm', nm' = nm ∨ nm' = [] → p (sumBy c nm' wd)) (hc : count ≤ 6) : Good p 16 (plainBy ns first count nm wd most) := by
  unfold plainBy
  split
  · exact Good.con0.mono (n := 0 + 1) (by omega)
  · refine (plainRun_good hm (fun c => h c _ ?_) _).mono (by omega)
    unfold namesFor
    split
    · exact .inr rfl
    · exact .inl rfl
theorem edgeBy_good {p : Sm → Prop} {c : Int} {nm : List Str} {m : List Pr} (h : p (edgeOne c nm m)) : Good p 2 (edgeBy c nm m) := by
  have g : Good p 1 (edgeEnd c nm m) := by
    unfold edgeEnd
    split
    · exact ⟨.above h, rfl, Nat.le_refl _⟩
    split
    · exact ⟨.nought h, rfl, Nat.le_refl _⟩
    · exact ⟨.goes h (by have := Int.emod_nonneg (c / 9) (by decide : (40 : Int) ≠ 0); omega), rfl, Nat.le_refl _⟩
  unfold edgeBy
  split
  · exact g.neg
  · exact g.mono (by omega)
/-- some or all round it: not plain -/
theorem boundBy_is {p : Sm → Prop} {c : Int} {a : Stm} {names : List Str} {n : Nat} (e : Ev p a) (hd : dep a ≤ n) : Ev p (boundBy c a names) ∧ plainB (boundBy c a names) = false ∧ dep (boundBy c a names) ≤ n + 4 := by
  have eb : Ev p (Stm.bnd (decide (c % 2 = 1)) (names.getD (c / 2 % 4).toNat "") a) := .bnd e
  have d1 : dep (Stm.bnd (decide (c % 2 = 1)) (names.getD (c / 2 % 4).toNat "") a) = dep a + 1 := rfl
  have pb : plainB (Stm.bnd (decide (c % 2 = 1)) (names.getD (c / 2 % 4).toNat "") a) = false := rfl
  unfold boundBy
  dsimp only
  generalize Stm.bnd (decide (c % 2 = 1)) (names.getD (c / 2 % 4).toNat "") a = i at eb d1 pb
  split
  · exact ⟨eb, pb, by omega⟩
  split
  · exact ⟨.neg eb, pb, by show dep i + 1 ≤ _; omega⟩
  split
  · refine ⟨.con (fun b hb => ?_) (by simp), ?_, ?_⟩
    · rcases List.mem_cons.mp hb with rfl | hb
      · exact e
      · rw [List.mem_singleton.mp hb]; exact eb
    · show (plainB a && (plainB i && true)) = false
      rw [pb]; simp
    · show max (dep a) (max (dep i) 0) + 1 ≤ _
      omega
  · refine ⟨.con (fun b hb => ?_) (by simp), ?_, ?_⟩
    · rcases List.mem_cons.mp hb with rfl | hb
      · exact .con (fun b hb => by cases hb) (by simp)
      · rw [List.mem_singleton.mp hb]
        refine .neg (.con (fun b hb => ?_) (by simp))
        rcases List.mem_cons.mp hb with rfl | hb
        · exact eb
        · rw [List.mem_singleton.mp hb]; exact e
    · show (true && ((plainB i && (plainB a && true)) && true)) = false
      rw [pb]; rfl
    · show max (0 + 1) (max (max (dep i) (max (dep a) 0) + 1 + 1) 0) + 1 ≤ _
      omega
end XS
namespace XS
open PySem PySem.Spec PyProof.Rows L2
theorem But.seqL {K : PySem.W.Frag} {d a : Addr} {H H1 : Hp} {ks : List (Key × V)} {xs : List V} (b : But d H H1) (h : H d = some (.dK ks)) (s : SqL K H a xs) : SqL K H1 a xs := by
  rcases s with (s | ⟨o, s⟩) | s
  · exact .inl (.inl (b _ _ (fun q => by subst q; rw [h] at s; cases s) s))
  · exact .inl (.inr ⟨o, b _ _ (fun q => by subst q; rw [h] at s; cases s) s⟩)
  · exact .inr s
theorem But.lst {d a : Addr} {H H1 : Hp} {ks : List (Key × V)} {xs : List V} (b : But d H H1) (h : H d = some (.dK ks)) (s : H a = some (.lst xs)) : H1 a = some (.lst xs) := b _ _ (fun q => by subst q; rw [h] at s; cases s) s
theorem al_strs {n : Nat} {ys : List Str} (h : ys.length ≤ 1000) : Al (n + 1) (.list (ys.map PyData.str)) := .lst (fun d hd => by
  obtain ⟨y, _, rfl⟩ := List.mem_map.mp hd
  exact .str y) (by rw [List.length_map]; exact h)
theorem putP_b {m : List Pr} {x : Str} {v : Int} {B : Nat} (h : ∀ q ∈ m, q.2.natAbs ≤ B) (hv : v.natAbs ≤ B) : ∀ q ∈ putP m x v, q.2.natAbs ≤ B := by
  unfold putP
  split
  · intro q hq
    obtain ⟨p, hp, rfl⟩ := List.mem_map.mp hq
    split
    · exact hv
    · exact h p hp
  · intro q hq
    rcases List.mem_append.mp hq with hq | hq
    · exact h q hq
    · rw [List.mem_singleton.mp hq]; exact hv
end XS
namespace XS
open PySem PySem.Spec PyProof.Rows L2
theorem cs_tup {K : PySem.W.Frag} {a : Addr} {od : Option Addr} {its : Array Value} {n : Nat} {sl : Array (Option Value)} {xs : List V} (l : K.lookup a = some ⟨.type "tuple", od, .seq its n, sl⟩) (hz : its.size ≤ sizeLine) (r : Vals xs its.toList) : ∀ H, SqT K H a xs := fun _ => .inr ⟨_, its, n, l, rfl, rfl, hz, r⟩
end XS

namespace XG
open PySem PySem.Spec PyProof.Rows L2
/-! ### sets of keys of one kind, with the order that a walk wants -/
section
variable {κ : Type} [DecidableEq κ] {P : Program} {w : World}
/-- the keys of the entries -/
def ks (key : Value → κ) (l : List (Int × Value)) : List κ := l.map fun e => key e.2
structure SetD (knd : KeyKind P w κ) (key : Value → κ) (S : κ → Bool) (es : Array (Int × Value)) (t : SetTable) : Prop where
  el : ElemsOf knd es.toList
  nd : (ks key es.toList).Nodup
  mem : ∀ k, S k = true ↔ k ∈ ks key es.toList
  few : es.size < scanBound
  fit : t.fits es.size = true
  ris : Ris t.place.toList
  led : w.params.followText "set-order" = true ∨ t.led = true
def SetX (knd : KeyKind P w κ) (key : Value → κ) (h : Heap) (a : Addr) (S : κ → Bool) (n : Nat) : Prop :=
  ∃ o es ep t, h.get? a = some o ∧ o.ExactSet ∧ o.data = .set es ep t ∧ es.size = n ∧ SetD knd key S es t
variable {knd : KeyKind P w κ} {key : Value → κ} {A : Around} {E : Value → Shared → Prop} {s : Shared} {a : Addr} {S : κ → Bool} {n : Nat}
theorem SetX.keep {h h' : Heap} (R : SetX knd key h a S n) (k : ∀ o, h.get? a = some o → h'.get? a = some o) : SetX knd key h' a S n := by
  obtain ⟨o, es, ep, t, ho, rest⟩ := R
  exact ⟨o, es, ep, t, k o ho, rest⟩
theorem SetX.ext {h : Heap} {S' : κ → Bool} (R : SetX knd key h a S n) (e : ∀ k, S' k = S k) : SetX knd key h a S' n := by
  have : S' = S := funext e
  rw [this]; exact R
theorem ks_mem (hk : ∀ k v, knd.is k v = true → key v = k) {l : List (Int × Value)} (el : ElemsOf knd l) (k : κ) : k ∈ ks key l ↔ ∃ e ∈ l, knd.is k e.2 = true := by
  unfold ks
  rw [List.mem_map]
  refine ⟨fun ⟨e, he, q⟩ => ⟨e, he, ?_⟩, fun ⟨e, he, q⟩ => ⟨e, he, hk _ _ q⟩⟩
  obtain ⟨⟨k', h1, _⟩, _⟩ := el e he
  have := hk _ _ h1
  rw [← q, this]; exact h1
theorem stored {h : Heap} {o : Obj} {es es' : Array (Int × Value)} {ep : Nat} {t t' : SetTable} (ho : h.get? a = some o) (hd : o.data = .set es ep t) :
    (h.update a (Obj.putSet es' t')).get? a = some { o with data := .set es' (ep + 1) t' } := L2.store_at ho hd
theorem add_end {f : Bool → Sem Unit} (hf0 : ∀ (b : Bool) (s1 : Shared) (Q1 : Unit → Shared → Prop), Q1 () s1 → wpAny (model P w) A (f b) Q1 E s1)
    {o : Obj} {es es1 : Array (Int × Value)} {ep : Nat} {t t2 : SetTable} (ho : s.heap.get? a = some o) (hx : o.ExactSet) (hd : o.data = .set es ep t) (D : SetD knd key S es1 t2) {wd : Bool} {R : Option Bool → Shared → Prop}
    (hR : ∀ h2, Heap.SameBut a s.heap h2 → SetX knd key h2 a S es1.size → R (some true) { s with heap := h2 }) :
    wpAny (model P w) A (do
        storeSet a es1 t2
        if (!wd && t2.tooFull) = true then do
            f (relayAll t2 es1 (SetTable.grown es1.size)).2.2
            storeSet a (relayAll t2 es1 (SetTable.grown es1.size)).1 (relayAll t2 es1 (SetTable.grown es1.size)).2.1
            pure (some true)
          else pure (some true)) R E s := by
  refine wpAny_bind (wpAny_storeSet_of ho hd ?_ (fits_of_scanBound D.few))
  have o1 := stored (es' := es1) (t' := t2) ho hd
  have b1 := Heap.SameBut.update s.heap a (Obj.putSet es1 t2)
  by_cases c : (!wd && t2.tooFull) = true
  · rw [if_pos c]
    have p1 := relayAll_perm t2 es1 (SetTable.grown es1.size)
    have p2 := relayAll_fits t2 es1 (SetTable.grown es1.size)
    have p3 := relayAll_ris t2 es1 (SetTable.grown es1.size)
    have p4 := relayAll_led t2 es1 (SetTable.grown es1.size)
    generalize relayAll t2 es1 (SetTable.grown es1.size) = Z at p1 p2 p3 p4 ⊢
    obtain ⟨es2, t3, gv⟩ := Z
    simp only at p1 p2 p3 p4 ⊢
    have z : es2.size = es1.size := by have := p1.length_eq; rwa [Array.length_toList, Array.length_toList] at this
    refine wpAny_bind (hf0 _ _ _ (wpAny_bind (wpAny_storeSet_of o1 rfl ?_ (fits_of_scanBound (by rw [z]; exact D.few)))))
    have pk : (ks key es2.toList).Perm (ks key es1.toList) := p1.map _
    exact wpAny_pure (hR _ (b1.trans (Heap.SameBut.update _ a _)) ⟨_, es2, _, t3, stored (es' := es2) (t' := t3) o1 rfl, hx, rfl, z, D.el.perm p1, pk.nodup_iff.mpr D.nd, fun k => (D.mem k).trans pk.mem_iff.symm, by rw [z]; exact D.few, p2, p3, D.led.imp id fun q => by rw [p4]; exact q⟩)
  · rw [if_neg c]
    exact wpAny_pure (hR _ b1 ⟨_, es1, _, t2, o1, hx, rfl, rfl, D⟩)
theorem add_hashed (hk : ∀ k v, knd.is k v = true → key v = k) {k : κ} {x : Value} {Q : Bool → Shared → Prop} (kx : knd.is k x = true) (hs : x.scannable = true) (R : SetX knd key s.heap a S n) (room : n + 1 < scanBound)
    (hQ : ∀ h2, Heap.SameBut a s.heap h2 → SetX knd key h2 a (fun j => S j || decide (j = k)) (if S k = true then n else n + 1) → Q (!S k) { s with heap := h2 }) :
    wpAny (model P w) A (setAddHashed a x (knd.hash k)) Q E s := by
  obtain ⟨o, es, ep, t, ho, hx, hd, hn, D⟩ := R
  unfold setAddHashed setAddHashedIn
  refine wpAny_holding ?_
  refine wpAny_bind (wpAny_setState_of ho hd D.fit ?_)
  simp only
  rw [byScan_of hs D.few D.el]
  simp only [↓reduceIte]
  unfold setAddByScan
  refine wpAny_bind (wpAny_bind (wpAny_rule (wpAny_bind (wpAny_setScan_of kx ho hd D.fit D.el ?_))))
  have inl : S k = true ↔ ∃ e ∈ es.toList, knd.is k e.2 = true := (D.mem k).trans (ks_mem hk D.el k)
  cases fi : es.toList.findIdx? (fun e => knd.is k e.2) with
  | some j =>
    simp only
    obtain ⟨hj, pj, _⟩ := List.findIdx?_eq_some_iff_getElem.mp fi
    have yes : S k = true := inl.mpr ⟨es.toList[j], List.getElem_mem hj, pj⟩
    have m2 : ∀ i, (S i || decide (i = k)) = true ↔ i ∈ ks key es.toList := fun i => by
      rw [Bool.or_eq_true, decide_eq_true_eq, ← D.mem i]
      exact ⟨fun z => z.elim id fun e => e ▸ yes, .inl⟩
    have q := hQ s.heap (Heap.SameBut.refl a s.heap) ⟨o, es, ep, t, ho, hx, hd, by rw [if_pos yes]; exact hn, ⟨D.el, D.nd, m2, D.few, D.fit, D.ris, D.led⟩⟩
    rw [yes] at q
    exact wpAny_pure (wpAny_pure q)
  | none =>
    simp only
    have no : S k = false := Bool.eq_false_iff.mpr fun z => by
      obtain ⟨e, he, q⟩ := inl.mp z
      rw [List.findIdx?_eq_none_iff.mp fi e he] at q
      cases q
    have nk : k ∉ ks key es.toList := fun z => by rw [(D.mem k).mpr z] at no; cases no
    have gv : ∀ (b : Bool) {s1 : Shared} {Q1 : Unit → Shared → Prop}, Q1 () s1 → wpAny (model P w) A (match b with | true => rule "set.scan.the-table-gave-way" | false => pure ()) Q1 E s1 := by
      intro b s1 Q1 q
      cases b
      · exact wpAny_pure q
      · exact wpAny_rule q
    have p1 := layNew_perm t es (knd.hash k) x
    have p2 := layNew_fits t es (knd.hash k) x
    have p3 := layNew_ris t es (knd.hash k) x D.ris
    have p4 := layNew_led t es (knd.hash k) x
    generalize layNew t es (knd.hash k) x = Z at p1 p2 p3 p4 ⊢
    obtain ⟨es1, t1, wd, gave⟩ := Z
    simp only at p1 p2 p3 p4 ⊢
    rw [Array.toList_push] at p1
    have pc : es1.toList.Perm ((knd.hash k, x) :: es.toList) := p1.trans (List.perm_append_singleton _ _)
    have pk : (ks key es1.toList).Perm (k :: ks key es.toList) := by
      have := pc.map fun e => key e.2
      rw [List.map_cons] at this
      have ex : key x = k := hk _ _ kx
      simp only [ex] at this
      exact this
    have zn : es1.size = n + 1 := by have := pc.length_eq; rw [Array.length_toList, List.length_cons, Array.length_toList, hn] at this; exact this
    have D1 : ∀ t2 : SetTable, t2.fits es1.size = true → Ris t2.place.toList → t2.led = t.led → SetD knd key (fun j => S j || decide (j = k)) es1 t2 := fun t2 f2 r2 l2 =>
      { el := (D.el.push kx hs).perm p1
        nd := pk.nodup_iff.mpr (List.nodup_cons.mpr ⟨nk, D.nd⟩)
        mem := fun i => by
          rw [Bool.or_eq_true, decide_eq_true_eq, D.mem i, pk.mem_iff, List.mem_cons]
          exact Or.comm
        few := by rw [zn]; exact room
        fit := f2
        ris := r2
        led := D.led.imp id fun z => by rw [l2]; exact z }
    have fin : ∀ h2, Heap.SameBut a s.heap h2 → SetX knd key h2 a (fun j => S j || decide (j = k)) es1.size → Q true { s with heap := h2 } := fun h2 sb r => by
      have q := hQ h2 sb
      rw [no] at q
      rw [zn] at r
      exact q r
    refine wpAny_bind (gv _ ?_)
    split
    · refine wpAny_bind ?_
      rw [hashByValue_scannable 8 hs]
      refine wpAny_pure (add_end ?_ ho hx hd (D1 _ ?_ ?_ ?_) ?_)
      · intro b s1 Q1 q
        cases b
        · exact wpAny_pure q
        · exact wpAny_rule q
      · split
        · exact p2
        · exact SetTable.fits_plain_off p2
      · split <;> exact p3
      · split <;> exact p4
      · intro h2 sb r; simp only; exact wpAny_pure (fin h2 sb r)
    · refine wpAny_bind (wpAny_pure ?_)
      simp only [↓reduceIte]
      refine add_end ?_ ho hx hd (D1 _ p2 p3 p4) ?_
      · intro b s1 Q1 q
        cases b
        · exact wpAny_pure q
        · exact wpAny_rule q
      · intro h2 sb r; simp only; exact wpAny_pure (fin h2 sb r)
theorem upd_loop (hk : ∀ k v, knd.is k v = true → key v = k) {I : Addr} {fp wr : List Addr} {G : Array GenState → Array GenState → Prop} {m : Nat} {Pv : Nat → Value → Prop} {St : Nat → Shared → Prop} {R : Result → Shared → Prop}
    (W : WalksS P w A.in1 I fp wr G m Pv St) (T : Addr) (hT : T ∉ fp) (xs : List κ) (hm : m = xs.length) (hb : m + 1 < scanBound) (item : ∀ i v, Pv i v → ∃ k, xs[i]? = some k ∧ knd.is k v = true ∧ v.scannable = true) :
    ∀ (j i : Nat) (s : Shared), i + j = m → St i s → (∃ c, c ≤ i ∧ SetX knd key s.heap T (fun z => decide (z ∈ xs.take i)) c) →
      (∀ s2 c, Moved (T :: wr) G s s2 → c ≤ m → SetX knd key s2.heap T (fun z => decide (z ∈ xs)) c → R (.ok (.ret .none)) s2) → codeAny (model P w) A (.builtin "set.update.loop" ⟨[.ref T, .ref I], []⟩) R s := by
  have Tw : T ∉ wr := fun h => hT (W.sub _ h)
  have more : ∀ b ∈ wr, b ∈ T :: wr := fun b h => List.mem_cons_of_mem _ h
  intro j
  induction j with
  | zero =>
    rintro i s hi st ⟨c, hc, hS⟩ hR
    obtain rfl : i = m := by omega
    refine codeAny_builtin (F.entry_set_update_loop) ?_
    rw [Around.under_plainId (F.plain_set_update_loop) _]
    show wpAny _ A.in1 (pyNext (Value.ref I) >>= _) _ _ s
    refine wpAny_bind (W.done s _ _ st fun s2 mv => ?_)
    show wpAny _ A.in1 (ret .none) _ _ s2
    rw [List.take_of_length_le (by omega)] at hS
    exact wpAny_pure (hR s2 c (mv.mono more) hc (hS.keep fun o e => mv.heap T o Tw e))
  | succ j ih =>
    rintro i s hi st ⟨c, hc, hS⟩ hR
    have lt : i < m := by omega
    refine codeAny_builtin (F.entry_set_update_loop) ?_
    rw [Around.under_plainId (F.plain_set_update_loop) _]
    show wpAny _ A.in1 (pyNext (Value.ref I) >>= _) _ _ s
    refine wpAny_bind (W.item i s _ _ lt st fun v s2 hP st2 mv => ?_)
    obtain ⟨k, hx, kx, sc⟩ := item i v hP
    have hS2 : SetX knd key s2.heap T (fun z => decide (z ∈ xs.take i)) c := hS.keep fun o e => mv.heap T o Tw e
    show wpAny _ A.in1 (holding [v] (setAdd T v) >>= _) _ _ s2
    refine wpAny_bind (wpAny_holding ?_)
    unfold setAdd
    refine wpAny_holding (wpAny_bind (knd.pyHash kx ?_))
    refine add_hashed (s := { s2 with toks := s2.toks + 1 }) hk kx sc hS2 (by omega) fun h2 sb hS3 => ?_
    have hS4 : SetX knd key h2 T (fun z => decide (z ∈ xs.take (i + 1))) (if decide (k ∈ xs.take i) = true then c else c + 1) := hS3.ext fun z => by
      rw [List.take_add_one, hx]
      simp
    have hc4 : (if decide (k ∈ xs.take i) = true then c else c + 1) ≤ i + 1 := by split <;> omega
    refine wpAny_pure ⟨plainId_quiet (F.plain_set_update_loop) _, ih (i + 1) _ (by omega) ?_ ⟨_, hc4, hS4⟩ fun s3 c3 mv3 hc3 hS5 => ?_⟩
    · refine W.frame _ s2 _ _ st2 (Nat.le_succ _) fun b hb' o e => ?_
      rw [sb.2 b fun q => hT (by rw [← q]; exact hb')]
      exact e
    · refine hR s3 c3 (Moved.trans W.gtrans ((mv.mono more).then_heap (Nat.le_succ _) fun b o hb' e => ?_) mv3) hc3 hS5
      rw [sb.2 b fun q => hb' (by rw [q]; exact List.mem_cons_self)]
      exact e
/-- the new set's object -/
def raw (w : World) : Obj := { cls := .type "set", dict := none, data := .set #[] 0 (.fresh 0 0 (!w.params.followText "set-order")) }
theorem raw_set {h : Heap} {xs : List κ} (ho : h.get? a = some (raw w)) : SetX knd key h a (fun z => decide (z ∈ xs.take 0)) 0 := by
  refine ⟨_, #[], 0, _, ho, ⟨rfl, rfl, rfl⟩, rfl, rfl, ⟨fun e he => by simp at he, by simp [ks], fun k => by simp [ks], by decide, by rfl, List.Pairwise.nil, ?_⟩⟩
  show _ ∨ (!w.params.followText "set-order") = true
  cases w.params.followText "set-order" with
  | true => exact .inl rfl
  | false => exact .inr rfl
theorem set_list (hk : ∀ k v, knd.is k v = true → key v = k) {l : Addr} {items : Array Value} (xs : List κ) {Q : Value → Shared → Prop} (hh : A.handled = none) (hl : s.heap.IsList l items) (hz : items.size = xs.length) (item : ∀ (i : Nat) v, items[i]? = some v → ∃ k, xs[i]? = some k ∧ knd.is k v = true ∧ v.scannable = true) (hb : xs.length + 1 < scanBound)
    (hQ : ∀ (h2 : Heap) (tk c : Nat), SetX knd key h2 s.heap.objs.size (fun z => decide (z ∈ xs)) c → c ≤ xs.length → (∀ b o, s.heap.get? b = some o → h2.get? b = some o) → Q (.ref s.heap.objs.size) { s with heap := h2, toks := tk }) :
    wpAny (model P w) A (call (.type "set") [.ref l]) Q E s := by
  obtain ⟨c0, tl, mro⟩ := F.called_set.mro
  have f1 := F.called_set.made
  have f2 := F.called_set.sub
  refine wpAny_call (codeAny_of_tree ?_)
  show wpAny _ _ (callAny (Value.type "set") _) _ _ _
  refine wpAny_pure ⟨Code.quiet_builtin _ (by decide +kernel), codeAny_builtin PySem.F.entry_type_call ?_⟩
  rw [Around.under_plain (weight_type_call_type "set" [Value.ref l] []) rfl]
  have f3 := F.called_set.notType
  have f4 := F.called_set.canCreate
  have f5 := F.typeCall_set_1 (.ref l)
  repeat any_goals first | assumption | wp_step
  refine codeAny_mono (code_set_led1 (.ref l) (E := E) (Q₁ := fun v s1 => v = .ref s.heap.objs.size ∧ s1 = { s with heap := s.heap.push (raw w) }) ⟨rfl, rfl⟩) fun r s1 hr => ?_
  cases r with
  | error e => exact hr
  | ok fl =>
  cases fl with
  | next | brk | cont => exact hr.elim
  | ret v =>
  obtain ⟨rfl, rfl⟩ := hr
  have hS : (s.heap.push (raw w)).get? s.heap.objs.size = some (raw w) := Heap.get?_push_size _ rfl
  have hT : Shared.TypeIs { s with heap := s.heap.push (raw w) } (.ref s.heap.objs.size) "set" := ⟨_, hS, rfl⟩
  have f6 := F.called_set.init.lookup
  have f7 := F.called_set.init.bind (.ref s.heap.objs.size)
  repeat any_goals first | assumption | wp_step
  refine codeAny_mono (codeAny_call_builtin (R := wants (fun r s2 => r = .none ∧ ∃ h2 tk c, s2 = { s with heap := h2, toks := tk } ∧ SetX knd key h2 s.heap.objs.size (fun z => decide (z ∈ xs)) c ∧ c ≤ xs.length ∧ ∀ b o, s.heap.get? b = some o → h2.get? b = some o) E)
    F.called_set.init.plain F.entry_set_init (check_set_init_1 hT ?_)) fun r2 s2 hr2 => ?_
  · obtain ⟨⟨lc, ld, ldt, lsl⟩, lo, e1, nl, e2⟩ := hl
    simp only at e1 e2
    subst e1 e2
    have lo' : (s.heap.push (raw w)).get? l = some { cls := .type "list", dict := ld, data := .seq items nl, slots := lsl } := Heap.get?_push_of_some _ lo
    have g1 := F.sub_list_set
    have g2 := F.sub_list_frozenset
    have g3 : (Value.type "list" == Value.type "dict") = false := by decide
    have hl1 : (s.heap.push (raw w)).IsList l items := ⟨_, lo', rfl, nl, rfl⟩
    unfold Builtin.«set.__init__» noKeywords Builtin.Frozenset.updateFrom
    generalize hI : pyIter = PI
    wp_walk
    subst hI
    refine wpAny_pyIter_list hl1 (wpAny_bind (wpAny_runValue ?_))
    have lS : l < s.heap.objs.size := Heap.lt_size lo
    have h3 : A.in1.in1.in1.handled = none := by simp [hh]
    have nI : l ≠ (s.heap.push (raw w)).objs.size := by rw [Heap.size_push]; exact Nat.ne_of_lt (Nat.lt_succ_of_lt lS)
    have nT : s.heap.objs.size ∉ [(s.heap.push (raw w)).objs.size, l] := by
      rw [Heap.size_push]
      simp only [List.mem_cons, List.not_mem_nil, or_false, not_or]
      exact ⟨Nat.ne_of_lt (Nat.lt_succ_self _), fun q => Nat.lt_irrefl _ (q ▸ lS)⟩
    refine upd_loop hk ((Walks.list h3 _ l nI items).toS) s.heap.objs.size nT xs hz (by omega) item items.size 0 _ (by omega) ⟨⟨_, Heap.get?_push_size _ rfl, rfl, rfl⟩, hl1.push _⟩ ⟨0, Nat.le_refl 0, raw_set ?_⟩ fun s3 c3 mv hc3 hS3 => ?_
    · exact Heap.get?_push_of_some _ hS
    · obtain ⟨h3', g3', d3, tk3, os3⟩ := s3
      obtain rfl : g3' = s.gens := mv.gens
      obtain rfl : d3 = s.drawn := mv.drawn
      obtain rfl : os3 = s.os := mv.os
      show wpAny _ _ _ _ _ _
      refine wpAny_pure ?_
      show wpAny _ _ (ret .none) _ _ _
      rw [hz] at hc3
      refine wpAny_pure ⟨rfl, h3', tk3, c3, rfl, hS3, hc3, fun b o e => ?_⟩
      have b0 : b < s.heap.objs.size := Heap.lt_size e
      refine mv.heap b o ?_ (Heap.get?_push_of_some _ (Heap.get?_push_of_some _ e))
      rw [Heap.size_push]
      simp only [List.mem_cons, List.not_mem_nil, or_false, not_or]
      exact ⟨Nat.ne_of_lt b0, Nat.ne_of_lt (Nat.lt_succ_of_lt b0)⟩
  · cases r2 with
    | error e => exact hr2
    | ok fl2 =>
    cases fl2 with
    | next | brk | cont => exact hr2.elim
    | ret r =>
    obtain ⟨rfl, h2, tk, c2, rfl, hS2, hc2, keep⟩ := hr2
    repeat any_goals first | assumption | wp_step
    exact hQ _ _ _ hS2 hc2 keep
end
end XG

namespace XG
open PySem PySem.Spec PyProof.Rows L2
/-! ### sorted(set(xs)), xs a list of texts -/
def keyS : Value → Str
  | .str x _ => x
  | _ => ""
theorem keyS_is (P : Program) (w : World) : ∀ k v, (PySem.strKind P w).is k v = true → keyS v = k := fun k v h => by
  obtain ⟨t, rfl⟩ := Value.isStrOf_shape h
  rfl
theorem strs_or : ∀ (l : List Value), (∀ v ∈ l, ∃ x t, v = Value.str x t) → StrsAre l (l.map keyS)
  | [], _ => .nil
  | v :: l, h => by
    obtain ⟨x, t, rfl⟩ := h _ List.mem_cons_self
    exact .cons x t (strs_or l fun u hu => h u (List.mem_cons_of_mem _ hu))
section
variable {P : Program} {w : World} {A : Around} {E : Value → Shared → Prop} {s : Shared} {a : Addr} {S : Str → Bool} {n : Nat}
theorem sorted_texts {Q : Value → Shared → Prop} (R : SetX (PySem.strKind P w) keyS s.heap a S n) (hh : A.handled = none) (h64 : n < 64)
    (hQ : ∀ s2 p (out : Array Value) (c : Nat) (ys : List Str), (∀ b o, s.heap.get? b = some o → s2.heap.get? b = some o) → s2.gens = s.gens → s2.os = s.os → s.heap.objs.size ≤ p → s2.heap.get? p = some (seqObj "list" out c) →
      StrsAre out.toList ys → sortedS ys = true → ys.Nodup → (∀ k, k ∈ ys ↔ S k = true) → ys.length = n → Q (.ref p) s2) : wpAny (model P w) A (call (.builtin "sorted") [.ref a]) Q E s := by
  obtain ⟨o, es, ep, t, ho, hx, hd, hn, D⟩ := R
  refine Calls.call_function_entry (kind_sorted) (plain_sorted) (entry_sorted) (args_sorted1 _) ?_
  unfold Builtin.«sorted»
  refine wpAny_bind (m := checkCount "sorted" 1 1 _) (wpAny_pure (wpAny_bind (collect_set (A := A.in1) hh ⟨o, ho, hx.1, hd⟩ D.fit D.few D.ris D.led fun s1 vs k1 z1 g1 o1 pm => ?_)))
  have vl : vs.length = n := by rw [pm.length_eq, List.length_map, Array.length_toList]; exact hn
  have all : ∀ v ∈ vs, ∃ x tk, v = Value.str x tk := fun v hv => by
    obtain ⟨e, he, rfl⟩ := List.mem_map.mp (pm.mem_iff.mp hv)
    obtain ⟨⟨k, h1, _⟩, _⟩ := D.el e he
    obtain ⟨tk, q⟩ := Value.isStrOf_shape h1
    exact ⟨k, tk, q⟩
  have hI := strs_or vs all
  have pk : (vs.map keyS).Perm (ks keyS es.toList) := by
    have q := pm.map keyS
    rw [List.map_map] at q
    exact q
  refine wpAny_bind (wpAny_newList ?_ (by rw [vl, sizeLine_eq]; omega))
  have oL : (s1.heap.push (seqObj "list" vs.toArray 0)).get? s1.heap.objs.size = some (seqObj "list" vs.toArray 0) := Heap.get?_push_size _ rfl
  refine wpAny_bind (wpAny_holding (wpAny_call_entry slot_list_sort ⟨_, oL, rfl⟩ entry_list_sort
    (list_sort_treeK strKind_oneLt oL hI.keysOf (fun v1 v2 r e => keyKind_strs (by rw [← e]; exact hI)) (by rw [vl]; exact h64) fun st pe so => ⟨_, rfl, ?_⟩) (args_list_sort _)))
  obtain ⟨ys, a1, a2, a3⟩ := sorted_out_str hI pe so
  obtain ⟨c, hc⟩ := sortedHeap_at (vs := vs) (out := (arrOf st).map (·.2)) oL
  have pn := a2.trans pk
  refine wpAny_pure ⟨_, rfl, hQ _ s1.heap.objs.size _ c ys (fun b u e => ?_) g1 o1 z1 hc a1 a3 (pn.nodup_iff.mpr D.nd) (fun k => by rw [pn.mem_iff, ← D.mem k]) ?_⟩
  · have q := k1 b u e
    have lt := Heap.lt_size q
    show (sortedHeap (s1.heap.push (seqObj "list" vs.toArray 0)) s1.heap.objs.size vs _).get? b = some u
    rw [sortedHeap_old (Nat.ne_of_lt lt) (by rw [size_push']; exact Nat.lt_succ_of_lt lt)]
    exact Heap.get?_push_of_some _ q
  · have : (ks keyS es.toList).length = n := by unfold ks; rw [List.length_map, Array.length_toList]; exact hn
    rw [pn.length_eq, this]
end
/-- the set of texts at a -/
def SetSO (P : Program) (w : World) (a : Addr) (S : Str → Bool) (n : Nat) : HO := .ext fun h => SetX (PySem.strKind P w) keyS h a S n
section
variable {X : Cx} {A : Around}
theorem setSO_new {w : World} {P : Program} {H : Hp} {h : Heap} {a : Addr} {S : Str → Bool} {n : Nat} (R : SetX (PySem.strKind P w) keyS h a S n) : ObjOk P w H h a (SetSO P w a S n) := by
  have ⟨o, _, _, _, ho, _⟩ := R
  exact ⟨R, ⟨o, ho⟩, fun _ _ p k => SetX.keep p k⟩
/-- set(xs) -/
def rSetS (P : Program) (w : World) (K : PySem.W.Frag) : List V → Hp → VK → Prop := fun vs H Q => ∃ (l : Addr) (xs : List Str), vs = [.ref l] ∧ SqL K H l (xs.map V.str) ∧ xs.length ≤ 1000 ∧ ∀ p c, H p = none → c ≤ xs.length → Q (.ref p) (upd H p (SetSO P w p (fun z => decide (z ∈ xs)) c))
theorem cr_setS (P : Program) (w : World) (K : PySem.W.Frag) (hc : X.calm = true) (hP : X.prog = P := by rfl) (hw : X.w = w := by rfl) (hK : X.K = K := by rfl) : CallR X (.type "set") (rSetS P w K) := by
  subst hK hP hw
  intro pins s σ H vs us Q I r h
  obtain ⟨l, xs, rfl, hs, hz, q⟩ := h
  rw [Vals.ref1 r]
  obtain ⟨its, rv, hl, _⟩ := I.list hs
  have il : its.length = xs.length := by have := rv.length; rw [List.length_map] at this; exact this.symm
  have sb : (1001 : Nat) < scanBound := by decide
  refine set_list (knd := PySem.strKind X.prog X.w) (key := keyS) (keyS_is _ _) xs (I.ok.hd hc) hl.isList (by rw [List.size_toArray, il]) (fun i v hv => ?_) (by omega) fun h2 tk c R hc2 kp => ?_
  · have hi : i < xs.length := by rw [← il]; simpa using (Array.getElem?_eq_some_iff.mp hv).1
    obtain ⟨u, hu, t, hu2⟩ := rv.get (i := i) (x := .str xs[i]) (by rw [List.getElem?_map, List.getElem?_eq_getElem hi]; rfl)
    have : v = u := by
      rw [List.getElem?_toArray] at hv
      rw [hv] at hu
      exact Option.some.inj hu
    subst this hu2
    exact ⟨xs[i], List.getElem?_eq_getElem hi, strKind_is _ _ _ _, rfl⟩
  · have fr : H s.heap.objs.size = none := I.hok.fresh (Nat.le_refl _)
    exact ⟨.ref _, upd H s.heap.objs.size (SetSO X.prog X.w s.heap.objs.size (fun z => decide (z ∈ xs)) c), I.laid (t' := tk) (fun b u e => kp b u e) (Nat.le_refl _) (setSO_new R), rfl, q _ _ fr hc2⟩
/-- sorted of it -/
def rSrtS (P : Program) (w : World) : List V → Hp → VK → Prop := fun vs H Q => ∃ (a : Addr) (S : Str → Bool) (n : Nat), vs = [.ref a] ∧ H a = some (SetSO P w a S n) ∧ n < 64 ∧
  ∀ (ys : List Str) (p : Addr), sortedS ys = true → ys.Nodup → (∀ k, k ∈ ys ↔ S k = true) → ys.length = n → H p = none → Q (.ref p) (upd H p (.lst (ys.map V.str)))
theorem cr_srtS (P : Program) (w : World) (hc : X.calm = true) (hP : X.prog = P := by rfl) (hw : X.w = w := by rfl) : CallR X (.builtin "sorted") (rSrtS P w) := by
  subst hP hw
  intro pins s σ H vs us Q I r h
  obtain ⟨a, S, n, rfl, ha, h64, q⟩ := h
  have R : SetX (PySem.strKind X.prog X.w) keyS s.heap a S n := (I.hok a _ ha).1
  rw [Vals.ref1 r]
  refine sorted_texts R (I.ok.hd hc) h64 fun s2 p out c ys k g o hp hg hi hs nd hm hl => ?_
  have len : (ys.map V.str).length ≤ sizeLine := by rw [List.length_map, hl, sizeLine_eq]; omega
  have fr : H p = none := I.hok.fresh hp
  obtain ⟨h2, g2, d2, t2, o2⟩ := s2
  simp only at g o
  subst g o
  exact ⟨.ref p, upd H p (.lst (ys.map V.str)), I.call (t' := t2) (ch := []) (Un.laid k hp fr) (I.hok.laid k hp ⟨len, out.toList, c, vals_of_strs hi, hg⟩) I.bare (fun _ z => nomatch z), rfl, q ys p hs nd hm hl fr⟩
end
end XG

namespace XS
open PySem PySem.Spec PyProof.Rows L2
/-! ### statements with other sums -/
mutual
def mapS (f : Sm → Sm) : Stm → Stm
  | .above s => .above (f s)
  | .nought s => .nought (f s)
  | .goes m s => .goes m (f s)
  | .neg a => .neg (mapS f a)
  | .con o l => .con o (mapSs f l)
  | .bnd o x a => .bnd o x (mapS f a)
def mapSs (f : Sm → Sm) : List Stm → List Stm
  | [] => []
  | a :: l => mapS f a :: mapSs f l
end
theorem mapSs_map (f : Sm → Sm) : ∀ l, mapSs f l = l.map (mapS f)
  | [] => rfl
  | a :: l => by rw [List.map_cons, ← mapSs_map f l]; rfl
theorem mapS_con (f : Sm → Sm) (o : Bool) (l : List Stm) : mapS f (.con o l) = .con o (l.map (mapS f)) := by
  show Stm.con o (mapSs f l) = _
  rw [mapSs_map]
theorem mapS_end {f : Sm → Sm} {a : Stm} (e : isEnd a = true) : mapS f a = mapS (fun _ => f (sumOf a)) a := by
  cases a <;> first | rfl | cases e
/-- an end's tuple: what stands ahead of its sum, the sum; with another sum in its place -/
theorem end_tup {K : PySem.W.Frag} {H : Hp} {v : V} {a : Stm} (e : isEnd a = true) (h : Dp K H v (toD a)) : ∃ p hd u, v = .ref p ∧ SqT K H p (hd ++ [u]) ∧ hd.length ≤ 2 ∧ hd ≠ [] ∧ Dp K H u (sumD (sumOf a)) ∧
    ∀ (s : Sm) (t : Addr) (H' : Hp) (u' : V), SqT K H' t (hd ++ [u']) → Dp K H' u' (sumD s) → Dp K H' (.ref t) (toD (mapS (fun _ => s) a)) := by
  cases a with
  | neg c | con o l | bnd o y c => cases e
  | above s | nought s =>
    obtain ⟨p, u, us, rfl, h1, h2, h3⟩ := Dp.one1 h
    cases h2
    cases h3 with
    | cons g1 g2 =>
    cases g2
    exact ⟨p, [.str _], _, rfl, h1, by simp, by simp, g1, fun s t H' u' a1 a2 => .tup a1 (.cons (.str _) (.one a2))⟩
  | goes m s =>
    obtain ⟨p, u, us, rfl, h1, h2, h3⟩ := Dp.one1 h
    cases h2
    cases h3 with
    | cons g1 g2 =>
    cases g1
    cases g2 with
    | cons g3 g4 =>
    cases g4
    exact ⟨p, [.str _, .int _], _, rfl, h1, by simp, by simp, g3, fun s t H' u' a1 a2 => .tup a1 (.cons (.str _) (.cons (.int _) (.one a2)))⟩
theorem sIx_last {n : Nat} (h : 0 < n) : HT.sIx n n (some (-1)) = n - 1 := by
  unfold HT.sIx
  simp only
  rw [if_pos (by decide)]
  omega
section
variable {K : PySem.W.Frag} {H : Hp} {Q : VK} {p : Addr} {hd : List V} {u : V}
/-- t[:-1] -/
theorem x_cutLast (h : SqT K H p (hd ++ [u])) (q : ∀ t H', Same H H' → H' t = some (.tup hd) → Q (.ref t) H') : rSlA K (.ref p) none (some (-1)) H Q := by
  have hl : (hd ++ [u]).length = hd.length + 1 := by rw [List.length_append]; rfl
  refine ⟨p, hd ++ [u], rfl, h, fun ⟨_, c⟩ => ?_, fun _ t ht => ?_⟩
  · rw [sIx_last (by omega)] at c
    omega
  · have e : cutV (hd ++ [u]) none (some (-1)) = hd := by
      unfold cutV
      rw [sIx_last (by omega), HT.sIx_none, List.drop_zero, Nat.sub_zero, hl, Nat.add_sub_cancel, List.take_left']
      rfl
    rw [e]
    exact q t _ (same_upd ht) upd_same
theorem atI_last : atI (hd ++ [u]) (-1) = some u := by
  have hl : (hd ++ [u]).length = hd.length + 1 := by rw [List.length_append]; rfl
  have e : ixN (hd ++ [u]).length (-1) = some hd.length := by
    rw [hl]
    unfold ixN
    rw [if_neg (by decide), if_pos (by omega)]
    congr 1
    omega
  unfold atI
  rw [e]
  simp
end
/-! ### data of statements, for the law's own look -/
theorem Al.up {n : Nat} {d : PyData} (h : Al n d) : ∀ {m : Nat}, n ≤ m → Al m d := by
  induction h with
  | int i => exact fun _ => .int i
  | str x => exact fun _ => .str x
  | tru => exact fun _ => .tru
  | non => exact fun _ => .non
  | tup _ hl ih =>
    intro m hm
    obtain ⟨j, rfl⟩ : ∃ j, m = j + 1 := ⟨m - 1, by omega⟩
    exact .tup (fun d hd => ih d hd (by omega)) hl
  | lst _ hl ih =>
    intro m hm
    obtain ⟨j, rfl⟩ : ∃ j, m = j + 1 := ⟨m - 1, by omega⟩
    exact .lst (fun d hd => ih d hd (by omega)) hl
theorem al_two {n : Nat} {a b : PyData} (h1 : Al n a) (h2 : Al n b) : Al (n + 1) (.tuple [a, b]) := .tup (fun d hd => by
  rcases List.mem_cons.mp hd with rfl | hd
  · exact h1
  · rw [List.mem_singleton.mp hd]; exact h2) (by simp)
theorem al_three {n : Nat} {a b c : PyData} (h1 : Al n a) (h2 : Al n b) (h3 : Al n c) : Al (n + 1) (.tuple [a, b, c]) := .tup (fun d hd => by
  rcases List.mem_cons.mp hd with rfl | hd
  · exact h1
  rcases List.mem_cons.mp hd with rfl | hd
  · exact h2
  · rw [List.mem_singleton.mp hd]; exact h3) (by simp)
theorem al_toD {p : Sm → Prop} (hp : ∀ s, p s → s.2.length ≤ 1000) {a : Stm} (e : Ev p a) : Al (2 * dep a + 2) (toD a) := by
  induction e with
  | above h => exact al_two (.str _) (al_sum (n := 0) (hp _ h))
  | nought h => exact al_two (.str _) (al_sum (n := 0) (hp _ h))
  | goes h _ => exact al_three (.str _) (.int _) (al_sum (n := 0) (hp _ h))
  | @neg c _ ih =>
    have e : 2 * dep (Stm.neg c) + 2 = (2 * dep c + 3) + 1 := by show 2 * (dep c + 1) + 2 = _; omega
    rw [e]
    exact al_two (.str _) (ih.up (by omega))
  | @bnd o x c _ ih =>
    have e : 2 * dep (Stm.bnd o x c) + 2 = (2 * dep c + 3) + 1 := by show 2 * (dep c + 1) + 2 = _; omega
    rw [e]
    exact al_three (.str _) (.str _) (ih.up (by omega))
  | @con o l _ hl ih =>
    have e : 2 * dep (Stm.con o l) + 2 = (2 * deps l + 2 + 1) + 1 := by show 2 * (deps l + 1) + 2 = _; omega
    rw [e]
    refine al_two (.str _) ?_
    rw [toDs_map]
    refine .tup (fun d hd => ?_) (by rw [List.length_map]; omega)
    obtain ⟨c, hc, rfl⟩ := List.mem_map.mp hd
    exact (ih c hc).up (by have := dep_in hc; omega)
theorem dep_mapS (f : Sm → Sm) : ∀ (n : Nat) (a : Stm), dep a ≤ n → dep (mapS f a) = dep a
  | 0, a, h => by have := dep_pos a; omega
  | n + 1, a, h => by
    cases a with
    | above _ | nought _ | goes _ _ => rfl
    | neg c =>
      show dep (mapS f c) + 1 = dep c + 1
      rw [dep_mapS f n c (Nat.le_of_succ_le_succ h)]
    | bnd o x c =>
      show dep (mapS f c) + 1 = dep c + 1
      rw [dep_mapS f n c (Nat.le_of_succ_le_succ h)]
    | con o l =>
      show deps (mapSs f l) + 1 = deps l + 1
      rw [mapSs_map]
      have key : ∀ r : List Stm, (∀ c ∈ r, dep c ≤ n) → deps (r.map (mapS f)) = deps r := by
        intro r
        induction r with
        | nil => intro _; rfl
        | cons c r ih =>
          intro hr
          show max (dep (mapS f c)) (deps (r.map (mapS f))) = max (dep c) (deps r)
          rw [ih fun d hd => hr d (List.mem_cons_of_mem _ hd), dep_mapS f n c (hr c (List.mem_cons_self ..))]
      rw [key l fun c hc => Nat.le_trans (dep_in hc) (Nat.le_of_succ_le_succ h)]
theorem Ev.map {p q : Sm → Prop} {f : Sm → Sm} (h : ∀ s, p s → q (f s)) {a : Stm} (e : Ev p a) : Ev q (mapS f a) := by
  induction e with
  | above x => exact .above (h _ x)
  | nought x => exact .nought (h _ x)
  | goes x y => exact .goes (h _ x) y
  | neg _ ih => exact .neg ih
  | bnd _ ih => exact .bnd ih
  | con _ hl ih =>
    rw [mapS_con]
    refine .con (fun c hc => ?_) (by rw [List.length_map]; exact hl)
    obtain ⟨b, hb, rfl⟩ := List.mem_map.mp hc
    exact ih b hb
/-! ### promises of put -/
/-- sums into which o may be put -/
def PutOk (o s : Sm) : Prop := (s.2.map (·.1)).Nodup ∧ s.2.length + o.2.length < 64 ∧ SmlS s
def sp_put_within (n : Nat) (K : PySem.W.Frag) : Sp := fun vs H Q _ => ∃ (v u : V) (x : Str) (a : Stm) (o : Sm), vs = [v, .str x, u] ∧ Dp K H v (toD a) ∧ Dp K H u (sumD o) ∧ SmlS o ∧ plainB a = true ∧ Ev (PutOk o) a ∧ dep a ≤ n ∧
  ∀ t H', Same H H' → Dp K H' (.ref t) (toD (mapS (fun s => putS s x o) a)) → Q (.ref t) H'
def sp_put (K : PySem.W.Frag) (NP : Addr) : Sp := fun vs H Q E => ∃ (v u : V) (x : Str) (a : Stm) (o : Sm), vs = [v, .str x, u] ∧ Dp K H v (toD a) ∧ Dp K H u (sumD o) ∧ SmlS o ∧ Ev (PutOk o) a ∧ dep a ≤ 60 ∧
  (plainB a = true → ∀ t H', Same H H' → Dp K H' (.ref t) (toD (mapS (fun s => putS s x o) a)) → Q (.ref t) H') ∧ (plainB a = false → ∀ H', Same H H' → E (.ref NP) none H')
def sp_sum_put (P : Program) (w : World) (K : PySem.W.Frag) : Sp := fun vs H Q _ => ∃ (v u : V) (x : Str) (s o : Sm), vs = [v, .str x, u] ∧ Dp K H v (sumD s) ∧ Dp K H u (sumD o) ∧ SmlS o ∧ PutOk o s ∧ (o.2.map (·.1)).Nodup ∧
  ∀ t H', Same H H' → Dp K H' (.ref t) (sumD (putS s x o)) → Q (.ref t) H'
def sp_lput (n : Nat) (K : PySem.W.Frag) : Sp := fun vs H Q _ => ∃ (v u : V) (x : Str) (a : Stm) (o : Sm), vs = [v, .str x, u] ∧ Dp K H v (toD a) ∧ Dp K H u (sumD o) ∧ SmlS o ∧ (o.2.map (·.1)).Nodup ∧ plainB a = true ∧ Ev (PutOk o) a ∧ dep a ≤ n ∧
  ∀ t H', Same H H' → Dp K H' (.ref t) (toD (mapS (fun s => putS s x o) a)) → Q (.ref t) H'
def sp_refused5 (K : PySem.W.Frag) : Sp := fun vs H Q _ => ∃ (v u : V) (x : Str) (a : Stm) (o : Sm), vs = [v, .str x, u] ∧ Dp K H v (toD a) ∧ Dp K H u (sumD o) ∧ SmlS o ∧ plainB a = false ∧ Ev (PutOk o) a ∧ dep a ≤ 60 ∧ ∀ H', Same H H' → Q (.str "not plain") H'
theorem kept_is {ps : List Pr} {f : Str → Int} {ys : List Str} (n : Norm ps) (r : Rising ys) (h : ∀ x, shr ps x = f x) (hf : ∀ x, x ∉ ys → f x = 0) : kept ys f = ps :=
  norm_ext (kept_norm r) n fun x => by rw [kept_shr r hf, h]
theorem putS_norm (s : Sm) (x : Str) (o : Sm) : Norm (putS s x o).2 := nrm_norm _
theorem shr_sml {s : Sm} (nd : (s.2.map (·.1)).Nodup) (h : SmlS s) (x : Str) : Sml (shr s.2 x) := by
  by_cases c : x ∈ s.2.map (·.1)
  · obtain ⟨p, hp, rfl⟩ := List.mem_map.mp c
    rw [shr_at nd hp]
    exact h.2 p hp
  · rw [shr_out c]
    exact sml_small (by decide)
end XS

local macro_rules | `(tactic| walk_at "go1") => `(tactic| first
  | ((with_reducible apply XS.g_var); (with_reducible refine' XS.x_var ?e ?_); (case e => exact rfl))
  | with_reducible apply XS.x_c
  | with_reducible apply XS.x_op
  | with_reducible apply XS.x_I0
  | with_reducible apply XS.x_gname
  | with_reducible apply XS.x_sAsg
  | with_reducible apply XS.x_cons
  | with_reducible apply XS.x_nil
  | with_reducible apply XS.x_k
  | with_reducible apply XS.x_k2
  | with_reducible apply XS.x_ki
  | with_reducible apply XS.x_eqI
  | with_reducible apply XS.x_neI
  | with_reducible apply XS.x_eqS
  | with_reducible apply XS.x_neS
  | with_reducible apply XS.x_test
  | with_reducible apply XS.x_B
  | with_reducible apply XS.x_sIf
  | with_reducible apply XS.x_ret
  | with_reducible apply XS.x_call
  | with_reducible apply XS.x_cb
  | with_reducible apply XS.x_tup
  | with_reducible apply XS.x_lst
  | with_reducible apply XS.x_T
  | with_reducible apply XS.x_F
  | with_reducible apply XS.x_Tn
  | with_reducible apply XS.x_Fn
  | ((with_reducible apply XS.g_I); (with_reducible refine XS.x_I ?c ?_); (case c => first | decide | exact ⟨by decide, by decide⟩ | exact .inr ⟨by decide, by decide⟩ | exact .inl ⟨by decide, by decide⟩))
  | with_reducible apply XS.x_next
  | with_reducible apply XS.x_sNext
  | with_reducible apply XS.x_cont
  | with_reducible apply XS.x_sDrop
  | with_reducible apply XS.x_sSeq
  | with_reducible apply XS.x_asg
  | with_reducible apply XS.x_if
  | with_reducible apply XS.x_drop
  | with_reducible apply XS.x_and
  | with_reducible apply XS.x_or
  | with_reducible apply XS.x_not
  | with_reducible apply XS.x_andV
  | with_reducible apply XS.x_orV
  | with_reducible apply XS.x_notV
  | with_reducible apply XS.x_ifE
  | with_reducible apply XS.x_un
  | with_reducible apply XS.x_U
  | with_reducible apply XS.x_sl
  | with_reducible apply XS.x_part
  | with_reducible apply XS.x_nopart
  | with_reducible apply XS.x_bm
  | with_reducible apply XS.x_bm0
  | with_reducible apply XS.x_sFor
  | with_reducible apply XS.x_for
  | with_reducible apply XS.x_iL
  | with_reducible apply XS.x_iT
  | with_reducible apply XS.x_iR1
  | with_reducible apply XS.x_iR2
  | with_reducible apply XS.x_gcons
  | with_reducible apply XS.x_gnil
  | with_reducible apply XS.x_lc
  | with_reducible apply XS.x_callS
  | with_reducible apply XS.x_callP
  | with_reducible apply XS.x_M1
  | with_reducible apply XS.x_star
  | with_reducible apply XS.x_tyes
  | with_reducible apply XS.x_dput
  | with_reducible apply XS.x_sdput
  | with_reducible apply XS.x_dget2
  | with_reducible apply XS.x_dget
  | with_reducible apply XS.x_dnew
  | with_reducible apply XS.x_din
  | with_reducible apply XS.x_dnotin
  | with_reducible apply XS.x_dpop1
  | with_reducible refine XS.x_nx ?_
  | with_reducible refine XS.x_rt ?_
  | with_reducible refine XS.x_bk ?_
  | with_reducible refine XS.x_ct ?_
  | with_reducible apply XS.x_sAny)
local macro_rules | `(tactic| walk_at "go") => `(tactic| repeat walk_at "go1")
local macro_rules | `(tactic| walk_at "all") => `(tactic| repeat (first | walk_at "go1" | (refine XS.x_no (by decide) ?_) | (refine XS.x_yes (by decide) ?_)))
namespace R1
open PySem PySem.Spec PyProof.Rows L2 XS
def topS (i : Nat) : Stmt := PySem.Challenge.pw_somenumber_k05_put_into.main.body.getD i (.Pass ⟨0, 0, 0, 0⟩)
section
variable {P : Program} {w : World} {K : PySem.W.Frag} {mg : Str → Option Value} {base : Heap}

abbrev s__law_cell_at : Stmt := topS 21
abbrev N__law_cell_at : List Str := ["_law_script", "_law_k"]
abbrev P__law_cell_at : List Str := ["_law_script", "_law_k"]
theorem sc__law_cell_at : FnScope N__law_cell_at P__law_cell_at (defScope s__law_cell_at) := ⟨rfl, rfl, rfl, by decide +kernel, rfl, by decide +kernel, by decide +kernel⟩
theorem d__law_cell_at (F : FunAt K mg "_law_cell_at" s__law_cell_at P__law_cell_at) (Z : Bl mg) : DefAt P w K mg base CX0 1 "_law_cell_at" P__law_cell_at (sp_cell_at K) := by
  refine F.ok sc__law_cell_at (fun vs H Q E h => ?_) (fun f cdv A outer s H vs Q E hr h => ?_)
  · obtain ⟨a, ns, k, rfl, _⟩ := h
    rfl
  obtain ⟨a, ns, k, rfl, h0, hS, q⟩ := h
  refine ⟨_, (pss_cons (ps_if (pt_cmpR op_lt (pv 1) (pe_callB (call_lenK K) (by rfl) Z.len PySem.boot_len (pa_cons (pv 0) pa_nil)) (nomark _))
          (pss_one (ps_ret (pe_ix (ix_listK K) (pv 0) (pv 1) (fun _ _ => rfl)))) pss_nil)
        (pss_one (ps_ret pe_int))), ?_⟩
  walk_at "go"
  refine XS.x_lenL hS ?_
  walk_at "go"
  rw [List.length_map]
  refine XS.x_d (fun c => ?_) (fun c => ?_)
  · walk_at "go"
    refine XS.x_ixL hS (XS.atI_map h0 c) ?_
    unfold cell at q
    rw [if_pos c] at q
    exact q
  · walk_at "go"
    unfold cell at q
    rw [if_neg c] at q
    exact q

abbrev s__law_whole : Stmt := topS 22
abbrev N__law_whole : List Str := ["_law_got"]
abbrev P__law_whole : List Str := ["_law_got"]
theorem sc__law_whole : FnScope N__law_whole P__law_whole (defScope s__law_whole) := ⟨rfl, rfl, rfl, by decide +kernel, rfl, by decide +kernel, by decide +kernel⟩
theorem d__law_whole (F : FunAt K mg "_law_whole" s__law_whole P__law_whole) (Z : Bl mg) : DefAt P w K mg base CX0 1 "_law_whole" P__law_whole sp_whole := by
  refine F.ok sc__law_whole (fun vs H Q E h => ?_) (fun f cdv A outer s H vs Q E hr h => ?_)
  · obtain ⟨i, rfl, _⟩ := h
    rfl
  obtain ⟨i, rfl, q⟩ := h
  refine ⟨_, (pss_one (ps_ret (pe_and (pe_callB (call_isiK K) (by rfl) Z.isinstance (by decide +kernel) (pa_cons (pv 0) (pa_cons (pe_bltn (v := .ty "int") rfl Z.int (by decide +kernel) rfl) pa_nil))) (pe_one (pe_not (pe_callB (call_isiK K) (by rfl) Z.isinstance (by decide +kernel) (pa_cons (pv 0) (pa_cons (pe_bltn (v := .ty "bool") rfl Z.bool (by decide +kernel) rfl) pa_nil)))))))), ?_⟩
  walk_at "go"
  refine XS.x_isi (.base (.int i)) XS.k_int_int ?_
  walk_at "go"
  refine XS.x_isi (.base (.int i)) XS.k_int_bool ?_
  walk_at "go"
  exact q

abbrev s__law_names_by : Stmt := topS 23
abbrev N__law_names_by : List Str := ["_law_cell", "_law_letters", "_law_size", "_law_word", "_law_number", "_law_k", "_law_spot", "_law_usual"]
abbrev P__law_names_by : List Str := ["_law_cell"]
theorem sc__law_names_by : FnScope N__law_names_by P__law_names_by (defScope s__law_names_by) := ⟨rfl, rfl, rfl, by decide +kernel, rfl, by decide +kernel, by decide +kernel⟩
theorem d__law_names_by (F : FunAt K mg "_law_names_by" s__law_names_by P__law_names_by) (Z : Bl mg) : DefAt P w K mg base CX0 1 "_law_names_by" P__law_names_by sp_names_by := by
  refine F.ok sc__law_names_by (fun vs H Q E h => ?_) (fun f cdv A outer s H vs Q E hr h => ?_)
  · obtain ⟨_, rfl, _⟩ := h
    rfl
  obtain ⟨c, rfl, q⟩ := h
  have hz := sizeBy_b c
  have hs := spotBy_b c
  have hl := wordBy_len c
  have hw := wordBy_ok c
  have end_ : ∀ (H2 : Hp), Same H H2 → ∀ Dl H' acc, H2 Dl = none → Same H2 H' → H' Dl = some (.lst acc) → DpAll K H' acc (((List.range (4 : Int).toNat).filter (fun _ => true)).map fun k => PyData.str (nameBy c k)) → Q (.ref Dl) H' := fun H2 e2 Dl H' acc h0 e h1 had => by
    have e3 : (((List.range (4 : Int).toNat).filter (fun _ => true)).map fun k => PyData.str (nameBy c k)) = (namesBy c).map PyData.str := rfl
    rw [e3] at had
    rw [had.strs] at h1
    exact q Dl H' (e2.free h0) (e2.trans e) h1
  refine ⟨_, (pss_cons (ps_set (i := 1) sc__law_names_by.nd rfl (Or.inr rfl) pe_str)
        (pss_cons (ps_set (i := 2) sc__law_names_by.nd rfl (Or.inl rfl) (pe_op op_add pe_int (pe_op op_mod (pv 0) pe_int)))
        (pss_cons (ps_set (i := 3) sc__law_names_by.nd rfl (Or.inr rfl) pe_str)
        (pss_cons (ps_set (i := 4) sc__law_names_by.nd rfl (Or.inl rfl) (pv 0))
        (pss_cons (ps_for PassesOwn.never rfl (pi_range1 rfl Z.range (pa_cons (pv 2) pa_nil)) (pg_name (i := 5) sc__law_names_by.nd rfl (Or.inl rfl))
          (pss_cons (ps_set (i := 4) sc__law_names_by.nd rfl (Or.inl rfl) (pe_op op_mod (pe_op op_add (pe_op op_mul (pv 4) pe_int) pe_int) pe_int))
        (pss_one (ps_set (i := 3) sc__law_names_by.nd rfl (Or.inr rfl) (pe_op op_add_str (pv 3) (pe_ix ix_str (pv 1) (pe_op op_mod (pe_op op_fdiv (pv 4) pe_int) pe_int) (fun _ _ => rfl)))))))
        (pss_cons (ps_if (pt_cmpR op_eq (pe_op op_mod (pe_op op_fdiv (pv 0) pe_int) pe_int) pe_int (nomark _))
          (pss_one (ps_ret (pe_lc (own := [("_law_k", 5)]) (by rfl) sc__law_names_by.nd (pi_range1 rfl Z.range (pa_cons pe_int pa_nil)) (blkOk_by (own := [("_law_k", 5)]) (N := N__law_names_by) (sc := defScope s__law_names_by) (by decide +kernel)) (fun _ _ _ _ _ => (pg_name (i := 5) sc__law_names_by.nd rfl (Or.inl rfl))) (fun _ _ _ _ _ => pts_nil) (fun _ _ _ _ _ => (pe_op op_repS (pe_slice sl_str (pv 3) po_none (po_some pe_int)) (pe_op op_add pe_int (pe_op op_mod (pe_op op_add (pv 5) (pe_op op_fdiv (pv 0) pe_int)) pe_int))))))) pss_nil)
        (pss_cons (ps_if (pt_cmpR (op_inK K) (pe_op op_mod (pe_op op_fdiv (pv 0) pe_int) pe_int) (pe_lst (pa_cons pe_int (pa_cons pe_int (pa_cons pe_int pa_nil)))) (by rfl))
          (pss_cons (ps_set (i := 7) sc__law_names_by.nd rfl (Or.inr rfl) (pe_lst (pa_cons pe_str (pa_cons pe_str (pa_cons pe_str (pa_cons pe_str (pa_cons pe_str (pa_cons pe_str (pa_cons pe_str (pa_cons pe_str (pa_cons pe_str (pa_cons pe_str (pa_cons pe_str (pa_cons pe_str (pa_cons pe_str (pa_cons pe_str pa_nil))))))))))))))))
        (pss_cons (ps_set (i := 7) sc__law_names_by.nd rfl (Or.inr rfl) (pe_op op_cat (pv 7) (pe_lst (pa_cons pe_str (pa_cons pe_str (pa_cons pe_str (pa_cons pe_str (pa_cons pe_str (pa_cons pe_str (pa_cons pe_str (pa_cons pe_str (pa_cons pe_str (pa_cons pe_str (pa_cons pe_str pa_nil))))))))))))))
        (pss_one (ps_ret (pe_lc (own := [("_law_k", 5)]) (by rfl) sc__law_names_by.nd (pi_range1 rfl Z.range (pa_cons pe_int pa_nil)) (blkOk_by (own := [("_law_k", 5)]) (N := N__law_names_by) (sc := defScope s__law_names_by) (by decide +kernel)) (fun _ _ _ _ _ => (pg_name (i := 5) sc__law_names_by.nd rfl (Or.inl rfl))) (fun _ _ _ _ _ => pts_nil) (fun _ _ _ _ _ => (pe_ix (ix_listK K) (pv 7) (pe_op op_mod (pe_op op_add (pe_op op_fdiv (pv 0) pe_int) (pe_ix (ix_listK K) (pe_lst (pa_cons pe_int (pa_cons pe_int (pa_cons pe_int (pa_cons pe_int pa_nil))))) (pv 5) (fun _ _ => rfl))) pe_int) (fun _ _ => rfl)))))))) pss_nil)
        (pss_cons (ps_set (i := 6) sc__law_names_by.nd rfl (Or.inr rfl) (pe_op op_modN (pe_op op_fdiv (pv 0) pe_int) (pv 2)))
        (pss_one (ps_ret (pe_lc (own := [("_law_k", 5)]) (by rfl) sc__law_names_by.nd (pi_range1 rfl Z.range (pa_cons pe_int pa_nil)) (blkOk_by (own := [("_law_k", 5)]) (N := N__law_names_by) (sc := defScope s__law_names_by) (by decide +kernel)) (fun _ _ _ _ _ => (pg_name (i := 5) sc__law_names_by.nd rfl (Or.inl rfl))) (fun _ _ _ _ _ => pts_nil) (fun _ _ _ _ _ => (pe_op op_add_str (pe_op op_add_str (pe_slice sl_str (pv 3) po_none (po_some (pv 6))) (pe_ix ix_str (pv 1) (pe_op op_mod (pe_op op_add (pe_op op_fdiv (pv 0) pe_int) (pe_op op_mul pe_int (pv 5))) pe_int) (fun _ _ => rfl))) (pe_slice sl_str (pv 3) (po_some (pe_op op_add (pv 6) pe_int)) po_none)))))))))))))), ?_⟩
  walk_at "go"
  refine XS.x_forR1 (by omega) (fun i σ H' => ∃ y5 : Option V, σ = [some (.int c), some (.str abc), some (.int (1 + c % 8)), some (.str (tx (wordRun c i).1)), some (.int (wordRun c i).2), y5, none, none] ∧ H' = H) ⟨none, rfl, rfl⟩ ?_ ?_
  · rintro i σ H' hi ⟨y5, rfl, rfl⟩
    walk_at "go"
    refine XS.x_ixS (by rw [abc_len]; exact XS.sz (by decide)) (abc_at _) ?_
    walk_at "go"
    refine ⟨_, _, rfl, rfl, ?_, ?_⟩
    · show (tx _).length + 1 ≤ sizeLine
      rw [tx_len, wordRun_len]
      exact XS.sz (by omega)
    · walk_at "go"
      refine ⟨some (.int i), ?_, rfl⟩
      show [_, _, _, some (V.str (tx (wordRun c i).1 ++ tx [lc (mixN (wordRun c i).2 / 7)])), _, _, _, _] = _
      rw [tx_app]
      rfl
  · rintro σ H' ⟨y5, rfl, rfl⟩
    have e0 : (wordRun c (1 + c % 8).toNat).1 = wordBy c := rfl
    rw [e0]
    have hsz : (tx (wordBy c)).length ≤ sizeLine := by rw [tx_len]; exact XS.sz (by omega)
    walk_at "go"
    refine XS.x_d (fun h1 => ?_) (fun h1 => ?_)
    · walk_at "go"
      refine XS.x_lcR1 (fun _ => true) (fun k => PyData.str (nameBy c k)) ⟨by decide, by decide⟩ (fun _ => .str _) (fun z hz H' Yes No e yes no => ?_) (end_ _ (Same.refl _))
      walk_at "go"
      refine ⟨rfl, ?_⟩
      walk_at "go"
      refine ⟨_, rfl, hsz, ?_⟩
      walk_at "go"
      have h2 : 0 ≤ (z + c / 24) % 8 := Int.emod_nonneg _ (by decide)
      have h3 : (z + c / 24) % 8 < 8 := Int.emod_lt_of_pos _ (by decide)
      refine ⟨_, _, rfl, rfl, by omega, by omega, Nat.le_trans (cutS_length _ _ _) (by rw [tx_len]; omega), ?_⟩
      have e1 : repS (cutS (tx (wordBy c)) none (some 1)) (1 + (z + c / 24) % 8).toNat = nameBy c z := by
        unfold nameBy
        rw [if_pos h1]
        have := tx_cut0 (wordBy c) 1
        rw [show ((1 : Nat) : Int) = 1 from rfl] at this
        rw [this, tx_rep]
      refine yes _ _ (Same.refl _) rfl ?_
      rw [e1]
      exact .str _
    · walk_at "go"
      refine ⟨XS.sz (by simp), fun p1 hp1 => ?_⟩
      obtain ⟨e1, h3⟩ := XS.newly (o := HO.lst _) hp1
      generalize hH1 : upd _ p1 _ = H1 at e1 h3 ⊢
      walk_at "go"
      refine ⟨p1, _, rfl, .inl (SqL.of h3), rfl, rfl, ?_⟩
      walk_at "go"
      have hin : (if false = true then !inV (V.int (c / 8 % 9)) [V.int 1, V.int 4, V.int 7] else inV (V.int (c / 8 % 9)) [V.int 1, V.int 4, V.int 7]) = decide (c / 8 % 9 = 1 ∨ c / 8 % 9 = 4 ∨ c / 8 % 9 = 7) := by
        rw [if_neg Bool.false_ne_true, Bool.eq_iff_iff]
        simp [inV, eqV]
        omega
      rw [hin]
      refine XS.x_d (fun h2 => ?_) (fun h2 => ?_)
      · walk_at "go"
        refine ⟨XS.sz (by simp), fun p2 hp2 => ?_⟩
        obtain ⟨e2, h4⟩ := XS.newly (o := HO.lst _) hp2
        generalize hH2 : upd _ p2 _ = H2 at e2 h4 ⊢
        walk_at "go"
        refine ⟨XS.sz (by simp), fun p3 hp3 => ?_⟩
        obtain ⟨e3, h5⟩ := XS.newly (o := HO.lst _) hp3
        generalize hH3 : upd _ p3 _ = H3 at e3 h5 ⊢
        walk_at "go"
        refine ⟨p2, p3, _, _, rfl, rfl, e3 _ _ h4, h5, XS.sz (by show 14 + 11 ≤ 100000; decide), fun p4 hp4 => ?_⟩
        have e4 := XS.same_upd (o := .lst (usual.map V.str)) hp4
        walk_at "go"
        refine XS.x_lcR1 (fun _ => true) (fun k => PyData.str (nameBy c k)) ⟨by decide, by decide⟩ (fun _ => .str _) (fun z hz H' Yes No e yes no => ?_) (end_ _ (((e1.trans e2).trans e3).trans e4))
        walk_at "go"
        refine ⟨rfl, ?_⟩
        walk_at "go"
        refine ⟨XS.sz (by simp), fun p5 hp5 => ?_⟩
        obtain ⟨e5, h7⟩ := XS.newly (o := HO.lst _) hp5
        generalize hH5 : upd _ p5 _ = H5 at e5 h7 ⊢
        walk_at "go"
        have hoff : atI [V.int 0, V.int 7, V.int 12, V.int 18] (z : Int) = some (.int (offs z)) := by
          have hz' : z = 0 ∨ z = 1 ∨ z = 2 ∨ z = 3 := by omega
          rcases hz' with rfl | rfl | rfl | rfl <;> exact atI_nat rfl
        refine XS.x_ixL (SqL.of h7) hoff ?_
        walk_at "go"
        have hu := usualAt c z
        have h8 : 0 ≤ (c / 72 + offs z) % 25 := Int.emod_nonneg _ (by decide)
        obtain ⟨j, hj⟩ := Int.eq_ofNat_of_zero_le h8
        have hus : atI (usual.map V.str) ((c / 72 + offs z) % 25) = some (.str (nameBy c z)) := by
          unfold nameBy
          rw [if_neg h1, if_pos h2, hj]
          rw [hj] at hu
          refine atI_nat ?_
          have hu' : j < usual.length := hu
          rw [List.getElem?_map, List.getD_eq_getElem?_getD]
          show (usual[j]?).map V.str = some (.str ((usual[j]?).getD ""))
          rw [List.getElem?_eq_getElem hu']
          rfl
        refine XS.x_ixL (SqL.of (e5 _ _ (e _ _ upd_same))) hus ?_
        exact yes _ _ e5 rfl (.str _)
      · walk_at "go"
        have hmod : (c / 24).fmod (1 + c % 8) = spotBy c := by rw [Int.fmod_eq_emod_of_nonneg _ (by omega)]; exact hs.2.symm
        refine XS.x_I (by omega) ?_
        rw [hmod]
        walk_at "go"
        refine XS.x_lcR1 (fun _ => true) (fun k => PyData.str (nameBy c k)) ⟨by decide, by decide⟩ (fun _ => .str _) (fun z hz H' Yes No e yes no => ?_) (end_ _ e1)
        walk_at "go"
        refine ⟨rfl, ?_⟩
        walk_at "go"
        refine ⟨_, rfl, hsz, ?_⟩
        rw [tx_cut0]
        walk_at "go"
        refine XS.x_ixS (by rw [abc_len]; exact XS.sz (by decide)) (abc_at _) ?_
        walk_at "go"
        have hcut : ((wordBy c).take (spotBy c)).length ≤ 8 := by rw [List.length_take]; omega
        refine ⟨_, _, rfl, rfl, ?_, ?_⟩
        · show (tx _).length + 1 ≤ sizeLine
          rw [tx_len]
          exact XS.sz (by omega)
        walk_at "go"
        refine ⟨_, rfl, hsz, ?_⟩
        have e7 : (spotBy c : Int) + 1 = ((spotBy c + 1 : Nat) : Int) := rfl
        rw [e7, tx_cut1]
        walk_at "go"
        have e9 : tx ((wordBy c).take (spotBy c)) ++ (⟨#[lc (c / 192 + 7 * z)]⟩ : Str) = tx ((wordBy c).take (spotBy c) ++ [lc (c / 192 + 7 * z)]) := tx_app _ [_]
        rw [e9]
        refine ⟨_, _, rfl, rfl, ?_, ?_⟩
        · rw [tx_len, tx_len, List.length_append, List.length_drop]
          exact XS.sz (by simp; omega)
        rw [tx_app]
        refine yes _ _ (Same.refl _) rfl ?_
        have e10 : nameBy c z = tx ((wordBy c).take (spotBy c) ++ [lc (c / 192 + 7 * z)] ++ (wordBy c).drop (spotBy c + 1)) := by
          unfold nameBy
          rw [if_neg h1, if_neg h2]
        rw [e10]
        exact .str _

abbrev s_made : Stmt := topS 6
abbrev N_made : List Str := ["number", "pairs", "shares", "name", "many", "parts"]
abbrev P_made : List Str := ["number", "pairs"]
theorem sc_made : FnScope N_made P_made (defScope s_made) := ⟨rfl, rfl, rfl, by decide +kernel, rfl, by decide +kernel, by decide +kernel⟩
theorem d_made (F : FunAt K mg "made" s_made P_made) (Z : Bl mg) : DefAt P w K mg base CX0 1 "made" P_made (sp_made K) := by
  refine F.ok sc_made (fun vs H Q E h => ?_) (fun f cdv A outer s H vs Q E hr h => ?_)
  · obtain ⟨_, _, _, rfl, _⟩ := h
    rfl
  obtain ⟨n, v, ps, rfl, hd, h64, q⟩ := h
  have hu := hu_of hr
  cases hd with
  | lst hs ha =>
  rename_i a us
  have hl := ha.len
  rw [List.length_map] at hl
  refine ⟨_, (pss_cons (ps_set (i := 2) sc_made.nd rfl (Or.inr rfl) pe_dnewK)
        (pss_cons (ps_for PassesOwn.never rfl (pi_listK K (pv 1)) (pg_tupK (n := 2) K rfl (pgs_cons (pg_name (i := 3) sc_made.nd rfl (Or.inl rfl)) (pgs_cons (pg_name (i := 4) sc_made.nd rfl (Or.inl rfl)) pgs_nil)))
          (pss_one (ps_dput hu (pv 2) (pv 3) (pe_op op_add (pe_dget2 hu (pv 2) (pv 3) pe_int ⟨by rfl, by rfl, by rfl, by rfl⟩) (pv 4)) rfl)))
        (pss_cons (ps_setLc (i := 5) (own := [("name", 3)]) (by rfl) sc_made.nd rfl rfl (sw_true rfl rfl rfl (by decide +kernel)) (pi_listK K (pe_callB (call_sortedD rfl) (by rfl) Z.sorted (by decide +kernel) (pa_cons (pv 2) pa_nil))) (blkOk_by (own := [("name", 3)]) (N := N_made) (sc := defScope s_made) (by decide +kernel)) (fun _ _ _ _ _ => (pg_name (i := 3) sc_made.nd rfl (Or.inl rfl))) (fun _ _ _ _ _ => (pts_one (pt_cmpR op_ne (pe_dget hu (pv 2) (pv 3) (fun _ _ => rfl)) pe_int (nomark _)))) (fun _ _ _ _ _ => (pe_tup (pa_cons (pv 3) (pa_cons (pe_dget hu (pv 2) (pv 3) (fun _ _ => rfl)) pa_nil)))))
        (pss_one (ps_ret (pe_tup (pa_cons (pv 0) (pa_cons (pe_callTy (call_tupK K) (by rfl) Z.tuple (by decide +kernel) (pa_cons (pv 5) pa_nil)) pa_nil)))))))), ?_⟩
  walk_at "go"
  intro d hd0
  have e0 : Same H (upd H d (.dK [])) := XS.same_upd hd0
  walk_at "go"
  refine XS.x_forL (e0.seq hs) (fun i σ H' => ∃ (y3 y4 : Option V) (m : List Pr), σ = [some (.int n), some (.ref a), some (.ref d), y3, y4, none] ∧ Same H H' ∧ H' d = some (.dK (dOf m)) ∧ Shares (ps.take i) m) ⟨none, none, [], rfl, e0, upd_same, Shares.nil⟩ (fun i σ H' _ ⟨_, _, _, _, e, _⟩ => e.seq hs) ?_ ?_
  · rintro i u σ H' hi ⟨y3, y4, m, rfl, e1, hd1, S⟩
    obtain ⟨dp, hd2, hd3⟩ := ha.getV hi
    obtain ⟨p, hp, rfl⟩ := XS.map_at hd2
    obtain ⟨c, rfl, hc⟩ := hd3.pair
    refine XS.x_gtup (e1.seqT hc) rfl ?_
    walk_at "go"
    have hm : m.length < 64 := by
      have h1 := S.len
      rw [List.length_take] at h1
      omega
    have hval : ((getP m p.1).map V.int).getD (.int 0) = .int ((getP m p.1).getD 0) := by
      cases getP m p.1 <;> rfl
    refine ⟨d, rfl, .inl ⟨_, .inl hd1⟩, ?_⟩
    walk_at "go"
    refine ⟨_, DGet.k (k := Sum.inr p.1) hd1, ?_⟩
    rw [dOf_val, hval]
    walk_at "go"
    refine ⟨d, _, rfl, DPut.k (k := Sum.inr p.1) hd1 (szl (by rw [dOf_len]; omega)), ?_⟩
    rw [dOf_put]
    refine ⟨_, _, _, rfl, XS.same_mut e1 hd0, upd_same, ?_⟩
    rw [XS.take_more hp]
    exact S.more
  · rintro σ H' ⟨y3, y4, m, rfl, e1, hd1, S⟩
    rw [hl, List.take_length] at S
    walk_at "go"
    refine ⟨d, dOf m, m.map (·.1), rfl, .inl hd1, dOf_keys m, by rw [List.length_map]; have := S.len; omega, fun ys l hp hsort hl0 => ?_⟩
    have e2 : Same H' (upd H' l (.lst (ys.map V.str))) := XS.same_upd hl0
    have hys : ys.length = m.length := by rw [hp.length_eq, List.length_map]
    have hml := S.len
    refine XS.x_lcL ys V.str (fun x => decide (shr ps x ≠ 0)) (fun x => prT (x, shr ps x)) (SqL.of upd_same) (by omega) (fun _ => im_pair _) (fun z hz H2 Yes No e3 yes no => ?_) (fun Dl H2 acc hDl e3 hacc had => ?_)
    · have hd2 : H2 d = some (.dK (dOf m)) := e3 _ _ (e2 _ _ hd1)
      have hmem : z ∈ m.map (·.1) := hp.mem_iff.mp hz
      have hval : getP m z = some (shr ps z) := by
        have h1 := S.val z
        have h2 := getP_some (m := m) (x := z)
        rw [decide_eq_true hmem] at h2
        cases q1 : getP m z with
        | none => rw [q1] at h2; cases h2
        | some k => rw [q1] at h1; rw [← h1]; rfl
      have hget : DGet H2 d (kV (Sum.inr z)) (some (.int (shr ps z))) := by
        have := DGet.k (k := Sum.inr z) hd2
        rw [dOf_val, hval] at this
        exact this
      walk_at "go"
      refine ⟨rfl, ?_⟩
      walk_at "go"
      refine ⟨d, _, rfl, hget, ?_⟩
      walk_at "go"
      refine XS.x_dn (fun c => ?_) (fun c => ?_)
      · walk_at "go"
        refine ⟨d, _, rfl, hget, ?_⟩
        walk_at "go"
        refine XS.x_newT (XS.sz (by simp)) fun t H3 ht e4 h3 => ?_
        exact yes _ _ e4 (by simpa using c) (Dp.mkPair (p := (z, shr ps z)) (SqT.of h3))
      · walk_at "go"
        exact no _ (Same.refl _) (by simpa using c)
    · walk_at "go"
      refine XS.x_tupL (SqL.of hacc) fun t H3 ht e4 h3 => ?_
      walk_at "go"
      refine XS.x_newT (XS.sz (by simp)) fun t2 H4 ht2 e5 h4 => ?_
      walk_at "go"
      obtain ⟨k1, k2, k3⟩ := S.keptOf hp hsort
      have e6 := (((e1.trans e2).trans e3).trans e4).trans e5
      have had' : DpAll K H2 acc ((kept ys (shr ps)).map prT) := by
        unfold kept
        rw [List.map_map]
        exact had
      exact q t2 H4 (kept ys (shr ps)) e6 k1 k2 k3 (Dp.mkSum (s := (n, kept ys (shr ps))) (SqT.of h4) (SqT.of (e5 _ _ h3)) (DpAll.same (e4.trans e5) _ _ had'))

abbrev s_share : Stmt := topS 9
abbrev N_share : List Str := ["one", "name", "unknown", "many"]
abbrev P_share : List Str := ["one", "name"]
theorem sc_share : FnScope N_share P_share (defScope s_share) := ⟨rfl, rfl, rfl, by decide +kernel, rfl, by decide +kernel, by decide +kernel⟩
theorem d_share (F : FunAt K mg "share" s_share P_share) (Z : Bl mg) : DefAt P w K mg base CX0 1 "share" P_share (sp_share K) := by
  refine F.ok sc_share (fun vs H Q E h => ?_) (fun f cdv A outer s H vs Q E hr h => ?_)
  · obtain ⟨_, _, _, rfl, _⟩ := h
    rfl
  obtain ⟨v, sm, x, rfl, hd, nd, q⟩ := h
  obtain ⟨a, b, us, rfl, h1, h2, h3⟩ := hd.sum
  have hl := h3.len
  rw [List.length_map] at hl
  refine ⟨_, (pss_cons (ps_for PassesOwn.never rfl (pi_tupK K (pe_ix (ix_tupK K) (pv 0) pe_int (fun _ _ => rfl))) (pg_tupK (n := 2) K rfl (pgs_cons (pg_name (i := 2) sc_share.nd rfl (Or.inl rfl)) (pgs_cons (pg_name (i := 3) sc_share.nd rfl (Or.inl rfl)) pgs_nil)))
          (pss_one (ps_if (pt_cmpR op_eq (pv 2) (pv 1) (nomark _))
          (pss_one (ps_ret (pv 3))) pss_nil)))
        (pss_one (ps_ret pe_int))), ?_⟩
  walk_at "go"
  refine XS.x_ixT h1 (XS.atI_get (i := 1) rfl) ?_
  walk_at "go"
  refine XS.x_forT h2 (fun i σ H' => ∃ y2 y3 : Option V, σ = [some (.ref a), some (.str x), y2, y3] ∧ H' = H ∧ x ∉ (sm.2.take i).map (·.1)) ⟨none, none, rfl, rfl, by simp⟩ (fun i σ H' _ ⟨_, _, _, e, _⟩ => by rw [e]; exact h2) ?_ ?_
  · rintro i u σ H' hi ⟨y2, y3, rfl, rfl, hn⟩
    obtain ⟨d, hd1, hd2⟩ := h3.getV hi
    obtain ⟨p, hp, rfl⟩ := XS.map_at hd1
    obtain ⟨c, rfl, hc⟩ := hd2.pair
    refine XS.x_gtup hc rfl ?_
    walk_at "go"
    refine XS.x_d (fun e => ?_) (fun e => ?_)
    · walk_at "go"
      have := XS.shr_at nd (List.mem_of_getElem? hp)
      rw [e] at this
      rw [this] at q
      exact q
    · walk_at "go"
      refine ⟨_, _, rfl, rfl, ?_⟩
      rw [XS.take_more hp, List.map_append, List.mem_append]
      rintro (h | h)
      · exact hn h
      · simp at h
        exact e h.symm
  · rintro σ H' ⟨y2, y3, rfl, rfl, hn⟩
    walk_at "go"
    rw [hl, List.take_length] at hn
    rw [XS.shr_out hn] at q
    exact q

abbrev s_added : Stmt := topS 7
abbrev N_added : List Str := ["one", "other"]
abbrev P_added : List Str := ["one", "other"]
theorem sc_added : FnScope N_added P_added (defScope s_added) := ⟨rfl, rfl, rfl, by decide +kernel, rfl, by decide +kernel, by decide +kernel⟩
theorem d_added (F : FunAt K mg "added" s_added P_added) (Z : Bl mg) (D_made : DefAt P w K mg base CX0 1 "made" P_made (sp_mk K)) : DefAt P w K mg base CX0 2 "added" P_added (sp_added K) := by
  refine F.ok sc_added (fun vs H Q E h => ?_) (fun f cdv A outer s H vs Q E hr h => ?_)
  · obtain ⟨_, _, _, _, rfl, _⟩ := h
    rfl
  obtain ⟨v, u, s1, s2, rfl, h1, h2, hl, q⟩ := h
  obtain ⟨a, b, us, rfl, a1, a2, a3⟩ := h1.sum
  obtain ⟨c, d, ws, rfl, c1, c2, c3⟩ := h2.sum
  have l1 := a3.len
  have l2 := c3.len
  rw [List.length_map] at l1 l2
  refine ⟨_, (pss_one (ps_ret (pe_callD D_made (hr.mono (by first | exact Nat.le_refl _ | omega | decide)) rfl pass0 (pa_cons (pe_op op_add (pe_ix (ix_tupK K) (pv 0) pe_int (fun _ _ => rfl)) (pe_ix (ix_tupK K) (pv 1) pe_int (fun _ _ => rfl))) (pa_cons (pe_lst (pa_starK K (pe_ix (ix_tupK K) (pv 0) pe_int (fun _ _ => rfl)) (pa_starK K (pe_ix (ix_tupK K) (pv 1) pe_int (fun _ _ => rfl)) pa_nil))) pa_nil))))), ?_⟩
  walk_at "go"
  refine XS.x_ixT a1 (XS.atI_get (i := 0) rfl) ?_
  walk_at "go"
  refine XS.x_ixT c1 (XS.atI_get (i := 0) rfl) ?_
  walk_at "go"
  refine XS.x_ixT a1 (XS.atI_get (i := 1) rfl) ?_
  refine ⟨_, _, rfl, .inl a2, ?_⟩
  walk_at "go"
  refine XS.x_ixT c1 (XS.atI_get (i := 1) rfl) ?_
  refine ⟨_, _, rfl, .inl c2, ?_⟩
  walk_at "go"
  refine ⟨XS.sz (by simp; omega), fun t ht => ?_⟩
  obtain ⟨e1, h5⟩ := XS.newly (o := HO.lst _) ht
  generalize hH1 : upd _ t _ = H1 at e1 h5 ⊢
  walk_at "go"
  refine ⟨_, _, s1.2 ++ s2.2, rfl, .lst (SqL.of h5) ?_, by rw [List.length_append]; exact hl, fun t H' e d => ?_⟩
  · rw [List.map_append, List.append_nil]
    exact (DpAll.same e1 _ _ a3).app (DpAll.same e1 _ _ c3)
  · exact q t H' (e1.trans e) d
abbrev s_times : Stmt := topS 8
abbrev N_times : List Str := ["number", "one", "name", "many"]
abbrev P_times : List Str := ["number", "one"]
theorem sc_times : FnScope N_times P_times (defScope s_times) := ⟨rfl, rfl, rfl, by decide +kernel, rfl, by decide +kernel, by decide +kernel⟩
theorem d_times (F : FunAt K mg "times" s_times P_times) (Z : Bl mg) (D_made : DefAt P w K mg base CX0 1 "made" P_made (sp_mk K)) : DefAt P w K mg base CX0 2 "times" P_times (sp_times K) := by
  refine F.ok sc_times (fun vs H Q E h => ?_) (fun f cdv A outer s H vs Q E hr h => ?_)
  · obtain ⟨_, _, _, rfl, _⟩ := h
    rfl
  obtain ⟨c, v, s1, rfl, h1, hl, sc, ss, q⟩ := h
  obtain ⟨a, b, us, rfl, a1, a2, a3⟩ := h1.sum
  have l1 := a3.len
  rw [List.length_map] at l1
  refine ⟨_, (pss_one (ps_ret (pe_callD D_made (hr.mono (by first | exact Nat.le_refl _ | omega | decide)) rfl pass0 (pa_cons (pe_op op_mulW (pv 0) (pe_ix (ix_tupK K) (pv 1) pe_int (fun _ _ => rfl))) (pa_cons (pe_lc (own := [("name", 2), ("many", 3)]) (by rfl) sc_times.nd (pi_tupK K (pe_ix (ix_tupK K) (pv 1) pe_int (fun _ _ => rfl))) (blkOk_by (own := [("name", 2), ("many", 3)]) (N := N_times) (sc := defScope s_times) (by decide +kernel)) (fun _ _ _ _ _ => (pg_tupK (n := 2) K rfl (pgs_cons (pg_name (i := 2) sc_times.nd rfl (Or.inl rfl)) (pgs_cons (pg_name (i := 3) sc_times.nd rfl (Or.inl rfl)) pgs_nil)))) (fun _ _ _ _ _ => pts_nil) (fun _ _ _ _ _ => (pe_tup (pa_cons (pv 2) (pa_cons (pe_op op_mulW (pv 0) (pv 3)) pa_nil))))) pa_nil))))), ?_⟩
  walk_at "go"
  refine XS.x_ixT a1 (XS.atI_get (i := 0) rfl) ?_
  walk_at "go"
  refine XS.x_I (XS.mul_ok sc ss.1) ?_
  walk_at "go"
  refine XS.x_ixT a1 (XS.atI_get (i := 1) rfl) ?_
  refine XS.x_lcT s1.2 us (fun _ => true) (fun p => prT (p.1, c * p.2)) a2 l1 (by omega) (fun _ => im_pair _) (fun i p u hi hu H1 Yes No e yes no => ?_) (fun l H1 acc hl0 e1 hacc had => ?_)
  · obtain ⟨x, rfl, hx⟩ := (pair_at a3 hi hu).pair
    refine XS.x_gtup (e.seqT hx) rfl ?_
    walk_at "go"
    refine ⟨rfl, ?_⟩
    walk_at "go"
    refine XS.x_I (XS.mul_ok sc (ss.2 p (List.mem_of_getElem? hi))) ?_
    walk_at "go"
    refine ⟨XS.sz (by simp), fun t ht => ?_⟩
    obtain ⟨e1, h5⟩ := XS.newly (o := HO.tup _) ht
    generalize hH1 : upd _ t _ = H2 at e1 h5 ⊢
    exact yes _ _ e1 rfl (Dp.mkPair (p := (p.1, c * p.2)) (SqT.of h5))
  · walk_at "go"
    have e3 : (s1.2.filter fun _ => true).map (fun p => prT (p.1, c * p.2)) = (s1.2.map fun p => (p.1, c * p.2)).map prT := by
      rw [List.map_map, List.filter_eq_self.mpr (fun _ _ => rfl)]
      rfl
    rw [e3] at had
    refine ⟨_, _, s1.2.map fun p => (p.1, c * p.2), rfl, .lst (SqL.of hacc) had, by rw [List.length_map]; exact hl, fun t H' e d => ?_⟩
    exact q t H' (e1.trans e) d
abbrev s_without : Stmt := topS 10
abbrev N_without : List Str := ["one", "name", "unknown", "many"]
abbrev P_without : List Str := ["one", "name"]
theorem sc_without : FnScope N_without P_without (defScope s_without) := ⟨rfl, rfl, rfl, by decide +kernel, rfl, by decide +kernel, by decide +kernel⟩
theorem d_without (F : FunAt K mg "without" s_without P_without) (Z : Bl mg) (D_made : DefAt P w K mg base CX0 1 "made" P_made (sp_mk K)) : DefAt P w K mg base CX0 2 "without" P_without (sp_without K) := by
  refine F.ok sc_without (fun vs H Q E h => ?_) (fun f cdv A outer s H vs Q E hr h => ?_)
  · obtain ⟨_, _, _, rfl, _⟩ := h
    rfl
  obtain ⟨v, s1, x, rfl, h1, hl, q⟩ := h
  obtain ⟨a, b, us, rfl, a1, a2, a3⟩ := h1.sum
  have l1 := a3.len
  rw [List.length_map] at l1
  refine ⟨_, (pss_one (ps_ret (pe_callD D_made (hr.mono (by first | exact Nat.le_refl _ | omega | decide)) rfl pass0 (pa_cons (pe_ix (ix_tupK K) (pv 0) pe_int (fun _ _ => rfl)) (pa_cons (pe_lc (own := [("unknown", 2), ("many", 3)]) (by rfl) sc_without.nd (pi_tupK K (pe_ix (ix_tupK K) (pv 0) pe_int (fun _ _ => rfl))) (blkOk_by (own := [("unknown", 2), ("many", 3)]) (N := N_without) (sc := defScope s_without) (by decide +kernel)) (fun _ _ _ _ _ => (pg_tupK (n := 2) K rfl (pgs_cons (pg_name (i := 2) sc_without.nd rfl (Or.inl rfl)) (pgs_cons (pg_name (i := 3) sc_without.nd rfl (Or.inl rfl)) pgs_nil)))) (fun _ _ _ _ _ => (pts_one (pt_cmpR op_ne (pv 2) (pv 1) (nomark _)))) (fun _ _ _ _ _ => (pe_tup (pa_cons (pv 2) (pa_cons (pv 3) pa_nil))))) pa_nil))))), ?_⟩
  walk_at "go"
  refine XS.x_ixT a1 (XS.atI_get (i := 0) rfl) ?_
  walk_at "go"
  refine XS.x_ixT a1 (XS.atI_get (i := 1) rfl) ?_
  refine XS.x_lcT s1.2 us (fun p => decide (p.1 ≠ x)) prT a2 l1 (by omega) (fun _ => im_pair _) (fun i p u hi hu H1 Yes No e yes no => ?_) (fun l H1 acc hl0 e1 hacc had => ?_)
  · obtain ⟨y, rfl, hx⟩ := (pair_at a3 hi hu).pair
    refine XS.x_gtup (e.seqT hx) rfl ?_
    walk_at "go"
    refine ⟨rfl, ?_⟩
    walk_at "go"
    refine XS.x_dn (fun c => ?_) (fun c => ?_)
    · walk_at "go"
      refine ⟨XS.sz (by simp), fun t ht => ?_⟩
      obtain ⟨e1, h5⟩ := XS.newly (o := HO.tup _) ht
      generalize hH1 : upd _ t _ = H2 at e1 h5 ⊢
      exact yes _ _ e1 (by simpa using c) (Dp.mkPair (p := p) (SqT.of h5))
    · exact no _ (Same.refl _) (by simpa using c)
  · walk_at "go"
    refine ⟨_, _, s1.2.filter fun p => decide (p.1 ≠ x), rfl, .lst (SqL.of hacc) had, Nat.lt_of_le_of_lt (List.length_filter_le _ _) hl, fun t H' e d => ?_⟩
    exact q t H' (e1.trans e) d
abbrev s_put_in : Stmt := topS 11
abbrev N_put_in : List Str := ["one", "name", "other"]
abbrev P_put_in : List Str := ["one", "name", "other"]
theorem sc_put_in : FnScope N_put_in P_put_in (defScope s_put_in) := ⟨rfl, rfl, rfl, by decide +kernel, rfl, by decide +kernel, by decide +kernel⟩
theorem d_put_in (F : FunAt K mg "put_in" s_put_in P_put_in) (Z : Bl mg) (D_added : DefAt P w K mg base CX0 2 "added" P_added (sp_added K)) (D_times : DefAt P w K mg base CX0 2 "times" P_times (sp_times K))
    (D_without : DefAt P w K mg base CX0 2 "without" P_without (sp_without K)) (D_share : DefAt P w K mg base CX0 1 "share" P_share (sp_share K)) : DefAt P w K mg base CX0 3 "put_in" P_put_in (sp_put_in K) := by
  refine F.ok sc_put_in (fun vs H Q E h => ?_) (fun f cdv A outer s H vs Q E hr h => ?_)
  · obtain ⟨_, _, _, _, _, rfl, _⟩ := h
    rfl
  obtain ⟨v, u, s1, s2, x, rfl, h1, h2, nd, hl, ss, so, q⟩ := h
  refine ⟨_, (pss_one (ps_ret (pe_callD D_added (hr.mono (by first | exact Nat.le_refl _ | omega | decide)) rfl pass0 (pa_cons (pe_callD D_without (hr.mono (by first | exact Nat.le_refl _ | omega | decide)) rfl pass0 (pa_cons (pv 0) (pa_cons (pv 1) pa_nil))) (pa_cons (pe_callD D_times (hr.mono (by first | exact Nat.le_refl _ | omega | decide)) rfl pass0 (pa_cons (pe_callD D_share (hr.mono (by first | exact Nat.le_refl _ | omega | decide)) rfl pass0 (pa_cons (pv 0) (pa_cons (pv 1) pa_nil))) (pa_cons (pv 2) pa_nil))) pa_nil))))), ?_⟩
  walk_at "go"
  refine ⟨_, s1, x, rfl, h1, by omega, fun t H1 e1 d1 => ?_⟩
  walk_at "go"
  refine ⟨_, s1, x, rfl, h1.same e1, nd, ?_⟩
  walk_at "go"
  have hsm : Sml (shr s1.2 x) := by
    by_cases c : x ∈ s1.2.map (·.1)
    · obtain ⟨p, hp, rfl⟩ := List.mem_map.mp c
      rw [shr_at nd hp]
      exact ss.2 p hp
    · rw [shr_out c]
      exact sml_small (by decide)
  refine ⟨_, _, s2, rfl, h2.same e1, by omega, hsm, so, fun t2 H2 e2 d2 => ?_⟩
  walk_at "go"
  refine ⟨_, _, woS s1 x, timS (shr s1.2 x) s2, rfl, d1.same e2, d2, ?_, fun t3 H3 e3 d3 => ?_⟩
  · have l1 := nrm_len (s1.2.filter fun p => decide (p.1 ≠ x))
    have l2 := nrm_len (s2.2.map fun p => (p.1, shr s1.2 x * p.2))
    have l3 := List.length_filter_le (fun p : Pr => decide (p.1 ≠ x)) s1.2
    rw [List.length_map] at l2
    show (nrm _).length + (nrm _).length < 64
    omega
  · exact q t3 H3 (e1.trans (e2.trans e3)) d3

abbrev s__law_word_of : Stmt := topS 27
abbrev N__law_word_of : List Str := ["_law_e", "_law_words"]
abbrev P__law_word_of : List Str := ["_law_e"]
theorem sc__law_word_of : FnScope N__law_word_of P__law_word_of (defScope s__law_word_of) := ⟨rfl, rfl, rfl, by decide +kernel, rfl, by decide +kernel, by decide +kernel⟩
theorem d__law_word_of {eS eV eP eN : Addr} (Y : Er K mg eS eV eP eN) (F : FunAt K mg "_law_word_of" s__law_word_of P__law_word_of) (Z : Bl mg) : DefP P w K mg base 1 "_law_word_of" P__law_word_of (sp_word_of eV eP eN) := by
  refine F.okP sc__law_word_of (fun a D vs H Q E h => ?_) (fun f cdv A outer s H vs Q p D hz hf hr h => ?_)
  · obtain ⟨rfl, _⟩ := h
    rfl
  obtain ⟨rfl, ek, rfl, q⟩ := h
  have C : ExcC K (ek.at eV eP eN) := by
    cases ek
    · exact Y.c_NoValue
    · exact Y.c_NotPlain
    · exact Y.c_NoNote
  refine ⟨_, (pss_cons (ps_set (i := 1) sc__law_word_of.nd rfl (Or.inl rfl) (pe_lst pa_nil))
        (pss_cons (ps_if (pt_val (pe_callB (call_isP (oe := p.2) List.mem_cons_self C hz hf) (by rfl) Z.isinstance (by decide +kernel) (pa_cons (pv 0) (pa_cons (pe_glob (v := .ref _) rfl Y.g_NoValue rfl) pa_nil))))
          (pss_one (ps_expr (pe_bm PySem.F.plainAttrs_list PySem.F.slot_list_append PySem.F.type_list_append mt_append (pv 1) (pa_cons pe_str pa_nil)))) pss_nil)
        (pss_cons (ps_if (pt_val (pe_callB (call_isP (oe := p.2) List.mem_cons_self C hz hf) (by rfl) Z.isinstance (by decide +kernel) (pa_cons (pv 0) (pa_cons (pe_glob (v := .ref _) rfl Y.g_NotPlain rfl) pa_nil))))
          (pss_one (ps_expr (pe_bm PySem.F.plainAttrs_list PySem.F.slot_list_append PySem.F.type_list_append mt_append (pv 1) (pa_cons pe_str pa_nil)))) pss_nil)
        (pss_cons (ps_if (pt_val (pe_callB (call_isP (oe := p.2) List.mem_cons_self C hz hf) (by rfl) Z.isinstance (by decide +kernel) (pa_cons (pv 0) (pa_cons (pe_glob (v := .ref _) rfl Y.g_NoNote rfl) pa_nil))))
          (pss_one (ps_expr (pe_bm PySem.F.plainAttrs_list PySem.F.slot_list_append PySem.F.type_list_append mt_append (pv 1) (pa_cons pe_str pa_nil)))) pss_nil)
        (pss_cons (ps_if (pt_not (pt_val (pe_callB (call_isP (oe := p.2) List.mem_cons_self C hz hf) (by rfl) Z.isinstance (by decide +kernel) (pa_cons (pv 0) (pa_cons (pe_bltn (v := .ty "ValueError") rfl Z.ValueError (by decide +kernel) rfl) pa_nil)))))
          (pss_one (ps_expr (pe_bm PySem.F.plainAttrs_list PySem.F.slot_list_append PySem.F.type_list_append mt_append (pv 1) (pa_cons pe_str pa_nil)))) pss_nil)
        (pss_one (ps_ret (pe_joinK K pe_str (pv 1))))))))), ?_⟩
  walk_at "go"
  refine ⟨XS.sz (by simp), fun l hl => ?_⟩
  obtain ⟨e1, h1⟩ := XS.newly (o := HO.lst _) hl
  generalize hH1 : upd _ l _ = H1 at e1 h1 ⊢
  walk_at "go"
  cases ek
  · refine XS.x_isE Y.i_VV ?_
    walk_at "go"
    refine XS.x_tyL' (XS.x_tyL h1) ?_
    walk_at "go"
    refine XS.x_app h1 (szl (by simp)) ?_
    walk_at "go"
    refine XS.x_isE Y.i_VP ?_
    walk_at "go"
    refine XS.x_isE Y.i_VN ?_
    walk_at "go"
    refine XS.x_isET Y.i_V ?_
    walk_at "go"
    refine ⟨⟨_, rfl⟩, ?_⟩
    walk_at "go"
    refine ⟨_, l, ["no value"], rfl, rfl, .inl (SqL.of upd_same), by decide +kernel, ?_⟩
    rw [show Txt.join ("" : Str) ["no value"] = "no value" by decide +kernel]
    exact q _ (XS.same_mut e1 hl)
  · refine XS.x_isE Y.i_PV ?_
    walk_at "go"
    refine XS.x_isE Y.i_PP ?_
    walk_at "go"
    refine XS.x_tyL' (XS.x_tyL h1) ?_
    walk_at "go"
    refine XS.x_app h1 (szl (by simp)) ?_
    walk_at "go"
    refine XS.x_isE Y.i_PN ?_
    walk_at "go"
    refine XS.x_isET Y.i_P ?_
    walk_at "go"
    refine ⟨⟨_, rfl⟩, ?_⟩
    walk_at "go"
    refine ⟨_, l, ["not plain"], rfl, rfl, .inl (SqL.of upd_same), by decide +kernel, ?_⟩
    rw [show Txt.join ("" : Str) ["not plain"] = "not plain" by decide +kernel]
    exact q _ (XS.same_mut e1 hl)
  · refine XS.x_isE Y.i_NV ?_
    walk_at "go"
    refine XS.x_isE Y.i_NP ?_
    walk_at "go"
    refine XS.x_isE Y.i_NN ?_
    walk_at "go"
    refine XS.x_tyL' (XS.x_tyL h1) ?_
    walk_at "go"
    refine XS.x_app h1 (szl (by simp)) ?_
    walk_at "go"
    refine XS.x_isET Y.i_N ?_
    walk_at "go"
    refine ⟨⟨_, rfl⟩, ?_⟩
    walk_at "go"
    refine ⟨_, l, ["no note"], rfl, rfl, .inl (SqL.of upd_same), by decide +kernel, ?_⟩
    rw [show Txt.join ("" : Str) ["no note"] = "no note" by decide +kernel]
    exact q _ (XS.same_mut e1 hl)

abbrev s__law_sum_by : Stmt := topS 24
abbrev N__law_sum_by : List Str := ["_law_cell", "_law_names", "_law_wide", "_law_number", "_law_parts", "_law_name", "_law_by"]
abbrev P__law_sum_by : List Str := ["_law_cell", "_law_names", "_law_wide"]
theorem sc__law_sum_by : FnScope N__law_sum_by P__law_sum_by (defScope s__law_sum_by) := ⟨rfl, rfl, rfl, by decide +kernel, rfl, by decide +kernel, by decide +kernel⟩
theorem d__law_sum_by (F : FunAt K mg "_law_sum_by" s__law_sum_by P__law_sum_by) (Z : Bl mg) : DefAt P w K mg base CX0 1 "_law_sum_by" P__law_sum_by (sp_sum_by K) := by
  refine F.ok sc__law_sum_by (fun vs H Q E h => ?_) (fun f cdv A outer s H vs Q E hr h => ?_)
  · obtain ⟨_, _, _, _, rfl, _⟩ := h
    rfl
  obtain ⟨c, wd, nl, names, rfl, h1, nd, hl, w0, w1, q⟩ := h
  refine ⟨_, (pss_cons (ps_set (i := 3) sc__law_sum_by.nd rfl (Or.inl rfl) (pv 0))
        (pss_cons (ps_set (i := 4) sc__law_sum_by.nd rfl (Or.inl rfl) (pe_lst pa_nil))
        (pss_cons (ps_for PassesOwn.never rfl (pi_listK K (pe_callB (cr_sortedSK K) (by rfl) Z.sorted (by decide +kernel) (pa_cons (pv 1) pa_nil))) (pg_name (i := 5) sc__law_sum_by.nd rfl (Or.inl rfl))
          (pss_cons (ps_set (i := 3) sc__law_sum_by.nd rfl (Or.inl rfl) (pe_op op_mod (pe_op op_add (pe_op op_mul (pv 3) pe_int) pe_int) pe_int))
        (pss_cons (ps_set (i := 6) sc__law_sum_by.nd rfl (Or.inl rfl) (pe_op op_sub (pe_op op_modN (pe_op op_fdiv (pv 3) pe_int) (pe_op op_add (pe_op op_mul pe_int (pv 2)) pe_int)) (pv 2)))
        (pss_one (ps_if (pt_cmpR op_ne (pv 6) pe_int (nomark _))
          (pss_one (ps_expr (pe_bm PySem.F.plainAttrs_list PySem.F.slot_list_append PySem.F.type_list_append mt_append (pv 4) (pa_cons (pe_tup (pa_cons (pv 5) (pa_cons (pv 6) pa_nil))) pa_nil)))) pss_nil)))))
        (pss_cons (ps_set (i := 3) sc__law_sum_by.nd rfl (Or.inl rfl) (pe_op op_mod (pe_op op_add (pe_op op_mul (pv 3) pe_int) pe_int) pe_int))
        (pss_one (ps_ret (pe_tup (pa_cons (pe_op op_sub (pe_op op_mod (pe_op op_fdiv (pv 3) pe_int) pe_int) pe_int) (pa_cons (pe_callTy (call_tupK K) (by rfl) Z.tuple (by decide +kernel) (pa_cons (pv 4) pa_nil)) pa_nil))))))))), ?_⟩
  walk_at "go"
  refine ⟨XS.sz (by simp), fun p hp => ?_⟩
  obtain ⟨e1, h5⟩ := XS.newly (o := HO.lst _) hp
  generalize hH1 : upd _ p _ = H1 at e1 h5 ⊢
  walk_at "go"
  refine XS.x_sortS (e1.seq h1) (by omega) fun ys yl H2 hp2 hs2 hy2 e2 h2 => ?_
  have hne : p ≠ yl := fun q => by subst q; rw [h5] at hy2; cases hy2
  have es := srt_is nd hp2 hs2
  subst es
  have hlen : (srt names).length ≤ 8 := Nat.le_trans (srt_len names) hl
  refine XS.x_forL (SqL.of h2) (fun i σ H' => ∃ (y5 y6 : Option V) (us : List V), σ = [some (.int c), some (.ref nl), some (.int wd), some (.int (sumRun wd c ((srt names).take i)).1), some (.ref p), y5, y6] ∧ Same H H' ∧ H' yl = some (.lst ((srt names).map V.str)) ∧
    H' p = some (.lst us) ∧ DpAll K H' us ((sumRun wd c ((srt names).take i)).2.map prT) ∧ us.length ≤ i) ⟨none, none, [], rfl, e1.trans e2, h2, e2 _ _ h5, .nil, Nat.le_refl _⟩ (fun i σ H' _ ⟨_, _, _, _, _, h, _⟩ => SqL.of h) ?_ ?_
  · rintro i x σ H' hi ⟨y5, y6, us, rfl, e3, h3, h4, d4, l4⟩
    obtain ⟨z, hz, rfl⟩ := map_at hi
    have hmod : 0 ≤ mixN (sumRun wd c ((srt names).take i)).1 / 7 := Int.ediv_nonneg (mixN_b _).1 (by decide)
    have ii : i < (srt names).length := (List.getElem?_eq_some_iff.mp hz).1
    have tk : sumRun wd c ((srt names).take (i + 1)) = sumTurn wd (sumRun wd c ((srt names).take i)) z := by rw [XS.take_more hz, sumRun_more]
    walk_at "go"
    refine XS.x_I (by omega) ?_
    walk_at "go"
    rw [Int.fmod_eq_emod_of_nonneg _ (by omega : 0 ≤ 2 * wd + 1)]
    refine XS.x_dn (fun e => ?_) (fun e => ?_)
    · walk_at "go"
      refine XS.x_tyL' (XS.x_tyL h4) ?_
      walk_at "go"
      refine ⟨XS.sz (by simp), fun t ht => ?_⟩
      obtain ⟨e6, h6⟩ := XS.newly (o := HO.tup _) ht
      generalize hH6 : upd _ t _ = H6 at e6 h6 ⊢
      walk_at "go"
      have k := keeps_lst (ys := us ++ [.ref t]) (e6 _ _ h4)
      refine XS.x_app (e6 _ _ h4) (szl (by omega)) ?_
      walk_at "go"
      refine ⟨some (.str z), some (.int (byOf wd (mixN (sumRun wd c ((srt names).take i)).1))), us ++ [.ref t], ?_, XS.same_mut (e3.trans e6) hp, ?_, upd_same, ?_, by rw [List.length_append]; show us.length + 1 ≤ i + 1; omega⟩
      · rw [tk]
        rfl
      · rw [upd_ne (fun q => hne q.symm)]
        exact e6 _ _ h3
      · rw [tk]
        show DpAll K _ _ (List.map prT (if byOf wd (mixN (sumRun wd c ((srt names).take i)).1) = 0 then _ else _))
        rw [if_neg (show ¬ byOf wd (mixN (sumRun wd c ((srt names).take i)).1) = 0 from e), List.map_append]
        refine (DpAll.keeps k _ _ (im_pairs _) (DpAll.same e6 _ _ d4)).app (.one ?_)
        exact Dp.keeps k _ _ (im_pair _) (Dp.mkPair (p := (z, byOf wd (mixN (sumRun wd c ((srt names).take i)).1))) (SqT.of h6))
    · walk_at "go"
      refine ⟨some (.str z), some (.int (byOf wd (mixN (sumRun wd c ((srt names).take i)).1))), us, ?_, e3, h3, h4, ?_, by omega⟩
      · rw [tk]
        rfl
      · rw [tk]
        show DpAll K _ _ (List.map prT (if byOf wd (mixN (sumRun wd c ((srt names).take i)).1) = 0 then _ else _))
        rw [if_pos (show byOf wd (mixN (sumRun wd c ((srt names).take i)).1) = 0 from e)]
        exact d4
  · rintro σ H' ⟨y5, y6, us, rfl, e3, h3, h4, d4, l4⟩
    rw [List.length_map, List.take_length] at d4 ⊢
    walk_at "go"
    refine XS.x_tupL (SqL.of h4) fun t1 H4 ht1 e4 h6 => ?_
    walk_at "go"
    refine ⟨XS.sz (by simp), fun t ht => ?_⟩
    obtain ⟨e7, h7⟩ := XS.newly (o := HO.tup _) ht
    generalize hH7 : upd _ t _ = H7 at e7 h7 ⊢
    exact q t _ (e3.trans (e4.trans e7)) (Dp.mkSum (s := sumBy c names wd) (SqT.of h7) (SqT.of (e7 _ _ h6)) (DpAll.same (e4.trans e7) _ _ d4))

abbrev s__law_end_by : Stmt := topS 25
abbrev N__law_end_by : List Str := ["_law_cell", "_law_names", "_law_wide", "_law_most", "_law_one"]
abbrev P__law_end_by : List Str := ["_law_cell", "_law_names", "_law_wide", "_law_most"]
theorem sc__law_end_by : FnScope N__law_end_by P__law_end_by (defScope s__law_end_by) := ⟨rfl, rfl, rfl, by decide +kernel, rfl, by decide +kernel, by decide +kernel⟩
theorem d__law_end_by (F : FunAt K mg "_law_end_by" s__law_end_by P__law_end_by) (Z : Bl mg) (D__law_sum_by : DefAt P w K mg base CX0 1 "_law_sum_by" P__law_sum_by (sp_sum_by K)) : DefAt P w K mg base CX0 2 "_law_end_by" P__law_end_by (sp_end_by K) := by
  refine F.ok sc__law_end_by (fun vs H Q E h => ?_) (fun f cdv A outer s H vs Q E hr h => ?_)
  · obtain ⟨_, _, _, _, _, rfl, _⟩ := h
    rfl
  obtain ⟨c, wd, most, nl, names, rfl, h1, nd, hl, w0, w1, hm, q⟩ := h
  refine ⟨_, (pss_cons (ps_set (i := 4) sc__law_end_by.nd rfl (Or.inl rfl) (pe_callD D__law_sum_by (hr.mono (by first | exact Nat.le_refl _ | omega | decide)) rfl pass0 (pa_cons (pe_op op_fdiv (pv 0) pe_int) (pa_cons (pv 1) (pa_cons (pv 2) pa_nil)))))
        (pss_cons (ps_if (pt_cmpR op_eq (pe_op op_mod (pv 0) pe_int) pe_int (nomark _))
          (pss_one (ps_ret (pe_tup (pa_cons pe_str (pa_cons (pv 4) pa_nil))))) pss_nil)
        (pss_cons (ps_if (pt_cmpR op_eq (pe_op op_mod (pv 0) pe_int) pe_int (nomark _))
          (pss_one (ps_ret (pe_tup (pa_cons pe_str (pa_cons (pe_op op_add pe_int (pe_op op_modN (pe_op op_fdiv (pv 0) pe_int) (pv 3))) (pa_cons (pv 4) pa_nil)))))) pss_nil)
        (pss_one (ps_ret (pe_tup (pa_cons pe_str (pa_cons (pv 4) pa_nil)))))))), ?_⟩
  walk_at "go"
  refine ⟨c / 12, wd, nl, names, rfl, h1, nd, hl, w0, w1, fun t H1 e1 d1 => ?_⟩
  walk_at "go"
  unfold endBy at q
  refine XS.x_d (fun e => ?_) (fun e => ?_)
  · rw [if_pos e] at q
    walk_at "go"
    refine ⟨XS.sz (by simp), fun t2 ht2 => ?_⟩
    obtain ⟨e2, h2⟩ := XS.newly (o := HO.tup _) ht2
    generalize hH2 : upd _ t2 _ = H2 at e2 h2 ⊢
    exact q _ _ (e1.trans e2) (Dp.mkNought (SqT.of h2) (Dp.same e2 _ _ d1))
  rw [if_neg e] at q
  walk_at "go"
  refine XS.x_d (fun e => ?_) (fun e => ?_)
  · rw [if_pos e] at q
    walk_at "go"
    refine XS.x_I (by omega) ?_
    walk_at "go"
    rw [Int.fmod_eq_emod_of_nonneg _ (by omega : 0 ≤ most)]
    refine ⟨XS.sz (by simp), fun t2 ht2 => ?_⟩
    obtain ⟨e2, h2⟩ := XS.newly (o := HO.tup _) ht2
    generalize hH2 : upd _ t2 _ = H2 at e2 h2 ⊢
    exact q _ _ (e1.trans e2) (Dp.mkGoes (SqT.of h2) (Dp.same e2 _ _ d1))
  · rw [if_neg e] at q
    walk_at "go"
    refine ⟨XS.sz (by simp), fun t2 ht2 => ?_⟩
    obtain ⟨e2, h2⟩ := XS.newly (o := HO.tup _) ht2
    generalize hH2 : upd _ t2 _ = H2 at e2 h2 ⊢
    exact q _ _ (e1.trans e2) (Dp.mkAbove (SqT.of h2) (Dp.same e2 _ _ d1))
abbrev s__law_plain_by : Stmt := topS 26
abbrev N__law_plain_by : List Str := ["_law_script", "_law_first", "_law_count", "_law_names", "_law_wide", "_law_most", "_law_begin", "_law_made_of", "_law_k", "_law_cell", "_law_end", "_law_way"]
abbrev P__law_plain_by : List Str := ["_law_script", "_law_first", "_law_count", "_law_names", "_law_wide", "_law_most"]
theorem sc__law_plain_by : FnScope N__law_plain_by P__law_plain_by (defScope s__law_plain_by) := ⟨rfl, rfl, rfl, by decide +kernel, rfl, by decide +kernel, by decide +kernel⟩
theorem d__law_plain_by (F : FunAt K mg "_law_plain_by" s__law_plain_by P__law_plain_by) (Z : Bl mg) (D__law_cell_at : DefAt P w K mg base CX0 1 "_law_cell_at" P__law_cell_at (sp_cell_at K)) (D__law_end_by : DefAt P w K mg base CX0 2 "_law_end_by" P__law_end_by (sp_end_by K)) :
    DefAt P w K mg base CX0 3 "_law_plain_by" P__law_plain_by (sp_plain_by K) := by
  refine F.ok sc__law_plain_by (fun vs H Q E h => ?_) (fun f cdv A outer s H vs Q E hr h => ?_)
  · obtain ⟨_, _, _, _, _, _, _, _, rfl, _⟩ := h
    rfl
  obtain ⟨a, ns, first, count, wd, most, nl, names, rfl, hS, f0, f1, c0, c1, h1, nd, hl, w0, w1, hm, q⟩ := h
  refine ⟨_, (pss_cons (ps_set (i := 6) sc__law_plain_by.nd rfl (Or.inl rfl) (pe_callD D__law_cell_at (hr.mono (by first | exact Nat.le_refl _ | omega | decide)) rfl pass0 (pa_cons (pv 0) (pa_cons (pv 1) pa_nil))))
        (pss_cons (ps_if (pt_cmpR op_eq (pe_op op_mod (pv 6) pe_int) pe_int (nomark _))
          (pss_one (ps_ret (pe_tup (pa_cons pe_str (pa_cons (pe_tup pa_nil) pa_nil))))) pss_nil)
        (Evl.pss_cut (ps_if (pt_cmpR op_eq (pe_op op_mod (pv 6) pe_int) pe_int (nomark _))
          (pss_one (ps_set (i := 3) sc__law_plain_by.nd rfl (Or.inl rfl) (pe_lst pa_nil))) pss_nil)
        (pss_cons (ps_set (i := 7) sc__law_plain_by.nd rfl (Or.inl rfl) (pe_callD D__law_end_by (hr.mono (by first | exact Nat.le_refl _ | omega | decide)) rfl pass0 (pa_cons (pv 6) (pa_cons (pv 3) (pa_cons (pv 4) (pa_cons (pv 5) pa_nil))))))
        (pss_cons (ps_for PassesOwn.never rfl (pi_range2 (by rfl) Z.range (pa_cons pe_int (pa_cons (pv 2) pa_nil))) (pg_name (i := 8) sc__law_plain_by.nd rfl (Or.inl rfl))
          (pss_cons (ps_set (i := 9) sc__law_plain_by.nd rfl (Or.inl rfl) (pe_op op_add (pe_callD D__law_cell_at (hr.mono (by first | exact Nat.le_refl _ | omega | decide)) rfl pass0 (pa_cons (pv 0) (pa_cons (pe_op op_add (pv 1) (pv 8)) pa_nil))) (pe_op op_mul pe_int (pv 8))))
        (pss_cons (ps_set (i := 10) sc__law_plain_by.nd rfl (Or.inl rfl) (pe_callD D__law_end_by (hr.mono (by first | exact Nat.le_refl _ | omega | decide)) rfl pass0 (pa_cons (pe_op op_fdiv (pv 9) pe_int) (pa_cons (pv 3) (pa_cons (pv 4) (pa_cons (pv 5) pa_nil))))))
        (pss_cons (ps_set (i := 11) sc__law_plain_by.nd rfl (Or.inl rfl) (pe_op op_mod (pv 9) pe_int))
        (pss_cons (ps_if (pt_cmpR op_lt (pv 11) pe_int (nomark _))
          (pss_one (ps_set (i := 7) sc__law_plain_by.nd rfl (Or.inl rfl) (pe_tup (pa_cons (pe_ix (ix_listK K) (pe_lst (pa_cons pe_str (pa_cons pe_str pa_nil))) (pv 11) (fun _ _ => rfl)) (pa_cons (pe_tup (pa_cons (pv 7) (pa_cons (pv 10) pa_nil))) pa_nil))))) pss_nil)
        (pss_cons (ps_if (pt_cmpR op_eq (pv 11) pe_int (nomark _))
          (pss_one (ps_set (i := 7) sc__law_plain_by.nd rfl (Or.inl rfl) (pe_tup (pa_cons pe_str (pa_cons (pe_tup (pa_cons (pe_tup (pa_cons pe_str (pa_cons (pv 7) pa_nil))) (pa_cons (pv 10) pa_nil))) pa_nil))))) pss_nil)
        (pss_cons (ps_if (pt_cmpR op_eq (pv 11) pe_int (nomark _))
          (pss_one (ps_set (i := 7) sc__law_plain_by.nd rfl (Or.inl rfl) (pe_tup (pa_cons pe_str (pa_cons (pe_tup (pa_cons pe_str (pa_cons (pe_tup (pa_cons (pv 10) (pa_cons (pv 7) (pa_cons (pe_tup (pa_cons pe_str (pa_cons (pe_tup pa_nil) pa_nil))) pa_nil)))) pa_nil))) pa_nil))))) pss_nil)
        (pss_cons (ps_if (pt_cmpR op_eq (pv 11) pe_int (nomark _))
          (pss_one (ps_set (i := 7) sc__law_plain_by.nd rfl (Or.inl rfl) (pe_tup (pa_cons pe_str (pa_cons (pe_tup (pa_cons (pe_tup (pa_cons pe_str (pa_cons (pe_tup (pa_cons (pv 10) (pa_cons (pv 7) pa_nil))) pa_nil))) (pa_cons (pe_tup (pa_cons pe_str (pa_cons (pv 10) pa_nil))) pa_nil))) pa_nil))))) pss_nil)
        (pss_cons (ps_if (pt_cmpR op_eq (pv 11) pe_int (nomark _))
          (pss_one (ps_set (i := 7) sc__law_plain_by.nd rfl (Or.inl rfl) (pe_tup (pa_cons pe_str (pa_cons (pe_tup (pa_cons (pv 10) (pa_cons (pe_tup (pa_cons pe_str (pa_cons (pe_tup pa_nil) pa_nil))) (pa_cons (pv 7) pa_nil)))) pa_nil))))) pss_nil)
        (pss_cons (ps_if (pt_cmpR op_eq (pv 11) pe_int (nomark _))
          (pss_one (ps_set (i := 7) sc__law_plain_by.nd rfl (Or.inl rfl) (pe_tup (pa_cons pe_str (pa_cons (pe_tup (pa_cons (pe_tup (pa_cons pe_str (pa_cons (pe_tup (pa_cons pe_str (pa_cons (pv 7) pa_nil))) pa_nil))) (pa_cons (pe_tup (pa_cons pe_str (pa_cons (pv 10) pa_nil))) pa_nil))) pa_nil))))) pss_nil)
        (pss_cons (ps_if (pt_cmpR op_eq (pv 11) pe_int (nomark _))
          (pss_one (ps_set (i := 7) sc__law_plain_by.nd rfl (Or.inl rfl) (pe_tup (pa_cons pe_str (pa_cons (pe_tup (pa_cons (pe_tup (pa_cons pe_str (pa_cons (pe_tup (pa_cons (pv 7) pa_nil)) pa_nil))) (pa_cons (pe_tup (pa_cons pe_str (pa_cons (pe_tup (pa_cons (pe_tup (pa_cons pe_str (pa_cons (pe_tup (pa_cons (pv 10) pa_nil)) pa_nil))) pa_nil)) pa_nil))) pa_nil))) pa_nil))))) pss_nil)
        (pss_one (ps_if (pt_cmpR op_eq (pv 11) pe_int (nomark _))
          (pss_one (ps_set (i := 7) sc__law_plain_by.nd rfl (Or.inl rfl) (pe_tup (pa_cons (pe_ix (ix_listK K) (pe_lst (pa_cons pe_str (pa_cons pe_str pa_nil))) (pe_op op_mod (pe_op op_fdiv (pv 9) pe_int) pe_int) (fun _ _ => rfl)) (pa_cons (pe_op (op_catK K) (pe_tup (pa_cons (pv 10) (pa_cons (pv 10) (pa_cons (pv 7) pa_nil)))) (pe_op (op_repU K) (pe_tup (pa_cons (pv 10) pa_nil)) (pe_op op_add pe_int (pe_op op_mod (pe_op op_fdiv (pv 9) pe_int) pe_int)))) pa_nil))))) pss_nil)))))))))))))
        (pss_one (ps_ret (pv 7)))))))), ?_⟩
  walk_at "go"
  refine ⟨a, ns, first, rfl, f0, hS, ?_⟩
  walk_at "go"
  unfold plainBy at q
  refine XS.x_d (fun e => ?_) (fun e => ?_)
  · rw [if_pos e] at q
    walk_at "go"
    refine ⟨XS.sz (by simp), fun t1 ht1 => ?_⟩
    obtain ⟨e1, h2⟩ := XS.newly (o := HO.tup _) ht1
    generalize hH1 : upd _ t1 _ = H1 at e1 h2 ⊢
    walk_at "go"
    refine ⟨XS.sz (by simp), fun t2 ht2 => ?_⟩
    obtain ⟨e2, h3⟩ := XS.newly (o := HO.tup _) ht2
    generalize hH2 : upd _ t2 _ = H2 at e2 h3 ⊢
    exact q _ _ (e1.trans e2) (Dp.mkCon (l := []) (SqT.of h3) rfl (SqT.of (e2 _ _ h2)) .nil)
  rw [if_neg e] at q
  refine XS.x_cut (fun σ H' => ∃ n2 : Addr, σ = [some (.ref a), some (.int first), some (.int count), some (.ref n2), some (.int wd), some (.int most), some (.int (cell ns first)), none, none, none, none, none] ∧ Same H H' ∧ SqL K H' n2 ((namesFor (cell ns first) names).map V.str)) ?_ ?_
  · walk_at "go"
    unfold namesFor
    refine XS.x_d (fun e => ?_) (fun e => ?_)
    · rw [if_pos e]
      walk_at "go"
      refine ⟨XS.sz (by simp), fun l hl => ?_⟩
      obtain ⟨e1, h2⟩ := XS.newly (o := HO.lst _) hl
      generalize hGH1 : upd _ l _ = H1 at e1 h2 ⊢
      walk_at "go"
      exact ⟨_, rfl, e1, SqL.of h2⟩
    · rw [if_neg e]
      walk_at "go"
      exact ⟨_, rfl, Same.refl _, h1⟩
  rintro σ H1 ⟨n2, rfl, e1, hn2⟩
  have nd2 : (namesFor (cell ns first) names).Nodup := by unfold namesFor; split; exact List.nodup_nil; exact nd
  have hl2 : (namesFor (cell ns first) names).length ≤ 8 := by unfold namesFor; split; exact Nat.zero_le _; exact hl
  generalize namesFor (cell ns first) names = nm2 at q hn2 nd2 hl2
  walk_at "go"
  refine ⟨_, wd, most, n2, nm2, rfl, hn2, nd2, hl2, w0, w1, hm, fun t2 H2 e2 d2 => ?_⟩
  walk_at "go"
  refine XS.x_forR2 (by omega) (fun i σ H' => ∃ (y8 y9 y10 y11 : Option V) (t : Addr), σ = [some (.ref a), some (.int first), some (.int count), some (.ref n2), some (.int wd), some (.int most), some (.int (cell ns first)), some (.ref t), y8, y9, y10, y11] ∧ Same H2 H' ∧
    Dp K H' (.ref t) (toD (plainRun ns first nm2 wd most i))) ⟨_, _, _, _, t2, rfl, Same.refl _, d2⟩ ?_ ?_
  · rintro i σ H' hi ⟨y8, y9, y10, y11, t, rfl, e3, d3⟩
    walk_at "go"
    refine ⟨a, ns, first + (1 + i), rfl, by omega, (e1.trans (e2.trans e3)).seq hS, ?_⟩
    walk_at "go"
    refine ⟨_, wd, most, n2, nm2, rfl, (e2.trans e3).seq hn2, nd2, hl2, w0, w1, hm, fun t4 H4 e4 d4 => ?_⟩
    walk_at "go"
    have step : toD (plainRun ns first nm2 wd most (i + 1)) = toD (turnBy ns first nm2 wd most (plainRun ns first nm2 wd most i) i) := rfl
    rw [step]
    unfold turnBy
    have p0 := Int.emod_nonneg (cell ns (first + (1 + i)) + 104729 * (1 + i)) (by decide : (9 : Int) ≠ 0)
    have p9 := Int.emod_lt_of_pos (cell ns (first + (1 + i)) + 104729 * (1 + i)) (by decide : (0 : Int) < 9)
    have d3' := Dp.same e4 _ _ d3
    generalize plainRun ns first nm2 wd most i = A1 at d3 d3'
    generalize endBy ((cell ns (first + (1 + i)) + 104729 * (1 + i)) / 9) nm2 wd most = E1 at d4
    generalize cell ns (first + (1 + i)) + 104729 * (1 + i) = c at p0 p9
    generalize c % 9 = way at p0 p9
    have hway : way = 0 ∨ way = 1 ∨ way = 2 ∨ way = 3 ∨ way = 4 ∨ way = 5 ∨ way = 6 ∨ way = 7 ∨ way = 8 := by omega
    rcases hway with rfl | rfl | rfl | rfl | rfl | rfl | rfl | rfl | rfl
    · walk_at "all"
      refine ⟨XS.sz (by simp), fun l1 hl1 => ?_⟩
      obtain ⟨e5, h5⟩ := XS.newly (o := HO.lst _) hl1
      generalize hGH5 : upd _ l1 _ = H5 at e5 h5 ⊢
      walk_at "go"
      refine XS.x_ixL (SqL.of h5) (XS.atI_get (i := 0) rfl) ?_
      walk_at "go"
      refine ⟨XS.sz (by simp), fun t6 ht6 => ?_⟩
      obtain ⟨e6, h6⟩ := XS.newly (o := HO.tup _) ht6
      generalize hGH6 : upd _ t6 _ = H6 at e6 h6 ⊢
      walk_at "go"
      refine ⟨XS.sz (by simp), fun t7 ht7 => ?_⟩
      obtain ⟨e7, h7⟩ := XS.newly (o := HO.tup _) ht7
      generalize hGH7 : upd _ t7 _ = H7 at e7 h7 ⊢
      walk_at "go"
      walk_at "all"
      have ek := e5.trans (e6.trans e7)
      exact ⟨_, _, _, _, t7, rfl, e3.trans (e4.trans ek), Dp.mkCon (o := true) (l := [A1, E1]) (SqT.of h7) rfl (SqT.of (e7 _ _ h6)) (.cons (Dp.same ek _ _ d3') (.one (Dp.same ek _ _ d4)))⟩
    · walk_at "all"
      refine ⟨XS.sz (by simp), fun l1 hl1 => ?_⟩
      obtain ⟨e5, h5⟩ := XS.newly (o := HO.lst _) hl1
      generalize hGH5 : upd _ l1 _ = H5 at e5 h5 ⊢
      walk_at "go"
      refine XS.x_ixL (SqL.of h5) (XS.atI_get (i := 1) rfl) ?_
      walk_at "go"
      refine ⟨XS.sz (by simp), fun t6 ht6 => ?_⟩
      obtain ⟨e6, h6⟩ := XS.newly (o := HO.tup _) ht6
      generalize hGH6 : upd _ t6 _ = H6 at e6 h6 ⊢
      walk_at "go"
      refine ⟨XS.sz (by simp), fun t7 ht7 => ?_⟩
      obtain ⟨e7, h7⟩ := XS.newly (o := HO.tup _) ht7
      generalize hGH7 : upd _ t7 _ = H7 at e7 h7 ⊢
      walk_at "go"
      walk_at "all"
      have ek := e5.trans (e6.trans e7)
      exact ⟨_, _, _, _, t7, rfl, e3.trans (e4.trans ek), XS.Dp.mkCon (o := false) (l := [A1, E1]) (SqT.of h7) rfl (SqT.of (e7 _ _ h6)) (.cons (Dp.same ek _ _ d3') (.one (Dp.same ek _ _ d4)))⟩
    · walk_at "all"
      refine ⟨XS.sz (by simp), fun t5 ht5 => ?_⟩
      obtain ⟨e5, h5⟩ := XS.newly (o := HO.tup _) ht5
      generalize hGH5 : upd _ t5 _ = H5 at e5 h5 ⊢
      walk_at "go"
      refine ⟨XS.sz (by simp), fun t6 ht6 => ?_⟩
      obtain ⟨e6, h6⟩ := XS.newly (o := HO.tup _) ht6
      generalize hGH6 : upd _ t6 _ = H6 at e6 h6 ⊢
      walk_at "go"
      refine ⟨XS.sz (by simp), fun t7 ht7 => ?_⟩
      obtain ⟨e7, h7⟩ := XS.newly (o := HO.tup _) ht7
      generalize hGH7 : upd _ t7 _ = H7 at e7 h7 ⊢
      walk_at "go"
      walk_at "all"
      have ek := (e5.trans (e6.trans e7))
      exact ⟨_, _, _, _, t7, rfl, e3.trans (e4.trans ek), (XS.Dp.mkCon (o := false) (l := [.neg A1, E1]) (SqT.of h7) rfl (e7.seqT (SqT.of h6)) (.cons (XS.Dp.mkNeg ((e6.trans e7).seqT (SqT.of h5)) (Dp.same ek _ _ d3')) (.cons (Dp.same ek _ _ d4) .nil)))⟩
    · walk_at "all"
      refine ⟨XS.sz (by simp), fun t5 ht5 => ?_⟩
      obtain ⟨e5, h5⟩ := XS.newly (o := HO.tup _) ht5
      generalize hGH5 : upd _ t5 _ = H5 at e5 h5 ⊢
      walk_at "go"
      refine ⟨XS.sz (by simp), fun t6 ht6 => ?_⟩
      obtain ⟨e6, h6⟩ := XS.newly (o := HO.tup _) ht6
      generalize hGH6 : upd _ t6 _ = H6 at e6 h6 ⊢
      walk_at "go"
      refine ⟨XS.sz (by simp), fun t7 ht7 => ?_⟩
      obtain ⟨e7, h7⟩ := XS.newly (o := HO.tup _) ht7
      generalize hGH7 : upd _ t7 _ = H7 at e7 h7 ⊢
      walk_at "go"
      refine ⟨XS.sz (by simp), fun t8 ht8 => ?_⟩
      obtain ⟨e8, h8⟩ := XS.newly (o := HO.tup _) ht8
      generalize hGH8 : upd _ t8 _ = H8 at e8 h8 ⊢
      walk_at "go"
      refine ⟨XS.sz (by simp), fun t9 ht9 => ?_⟩
      obtain ⟨e9, h9⟩ := XS.newly (o := HO.tup _) ht9
      generalize hGH9 : upd _ t9 _ = H9 at e9 h9 ⊢
      walk_at "go"
      walk_at "all"
      have ek := (e5.trans (e6.trans (e7.trans (e8.trans e9))))
      exact ⟨_, _, _, _, t9, rfl, e3.trans (e4.trans ek), (XS.Dp.mkNeg (SqT.of h9) (XS.Dp.mkCon (o := true) (l := [E1, A1, .con true []]) (e9.seqT (SqT.of h8)) rfl ((e8.trans e9).seqT (SqT.of h7)) (.cons (Dp.same ek _ _ d4) (.cons (Dp.same ek _ _ d3') (.cons (XS.Dp.mkCon (o := true) (l := []) ((e7.trans (e8.trans e9)).seqT (SqT.of h6)) rfl ((e6.trans (e7.trans (e8.trans e9))).seqT (SqT.of h5)) .nil) .nil)))))⟩
    · walk_at "all"
      refine ⟨XS.sz (by simp), fun t5 ht5 => ?_⟩
      obtain ⟨e5, h5⟩ := XS.newly (o := HO.tup _) ht5
      generalize hGH5 : upd _ t5 _ = H5 at e5 h5 ⊢
      walk_at "go"
      refine ⟨XS.sz (by simp), fun t6 ht6 => ?_⟩
      obtain ⟨e6, h6⟩ := XS.newly (o := HO.tup _) ht6
      generalize hGH6 : upd _ t6 _ = H6 at e6 h6 ⊢
      walk_at "go"
      refine ⟨XS.sz (by simp), fun t7 ht7 => ?_⟩
      obtain ⟨e7, h7⟩ := XS.newly (o := HO.tup _) ht7
      generalize hGH7 : upd _ t7 _ = H7 at e7 h7 ⊢
      walk_at "go"
      refine ⟨XS.sz (by simp), fun t8 ht8 => ?_⟩
      obtain ⟨e8, h8⟩ := XS.newly (o := HO.tup _) ht8
      generalize hGH8 : upd _ t8 _ = H8 at e8 h8 ⊢
      walk_at "go"
      refine ⟨XS.sz (by simp), fun t9 ht9 => ?_⟩
      obtain ⟨e9, h9⟩ := XS.newly (o := HO.tup _) ht9
      generalize hGH9 : upd _ t9 _ = H9 at e9 h9 ⊢
      walk_at "go"
      walk_at "all"
      have ek := (e5.trans (e6.trans (e7.trans (e8.trans e9))))
      exact ⟨_, _, _, _, t9, rfl, e3.trans (e4.trans ek), (XS.Dp.mkCon (o := true) (l := [.con false [E1, A1], .neg E1]) (SqT.of h9) rfl (e9.seqT (SqT.of h8)) (.cons (XS.Dp.mkCon (o := false) (l := [E1, A1]) ((e7.trans (e8.trans e9)).seqT (SqT.of h6)) rfl ((e6.trans (e7.trans (e8.trans e9))).seqT (SqT.of h5)) (.cons (Dp.same ek _ _ d4) (.cons (Dp.same ek _ _ d3') .nil))) (.cons (XS.Dp.mkNeg ((e8.trans e9).seqT (SqT.of h7)) (Dp.same ek _ _ d4)) .nil)))⟩
    · walk_at "all"
      refine ⟨XS.sz (by simp), fun t5 ht5 => ?_⟩
      obtain ⟨e5, h5⟩ := XS.newly (o := HO.tup _) ht5
      generalize hGH5 : upd _ t5 _ = H5 at e5 h5 ⊢
      walk_at "go"
      refine ⟨XS.sz (by simp), fun t6 ht6 => ?_⟩
      obtain ⟨e6, h6⟩ := XS.newly (o := HO.tup _) ht6
      generalize hGH6 : upd _ t6 _ = H6 at e6 h6 ⊢
      walk_at "go"
      refine ⟨XS.sz (by simp), fun t7 ht7 => ?_⟩
      obtain ⟨e7, h7⟩ := XS.newly (o := HO.tup _) ht7
      generalize hGH7 : upd _ t7 _ = H7 at e7 h7 ⊢
      walk_at "go"
      refine ⟨XS.sz (by simp), fun t8 ht8 => ?_⟩
      obtain ⟨e8, h8⟩ := XS.newly (o := HO.tup _) ht8
      generalize hGH8 : upd _ t8 _ = H8 at e8 h8 ⊢
      walk_at "go"
      walk_at "all"
      have ek := (e5.trans (e6.trans (e7.trans e8)))
      exact ⟨_, _, _, _, t8, rfl, e3.trans (e4.trans ek), (XS.Dp.mkCon (o := false) (l := [E1, .con false [], A1]) (SqT.of h8) rfl (e8.seqT (SqT.of h7)) (.cons (Dp.same ek _ _ d4) (.cons (XS.Dp.mkCon (o := false) (l := []) ((e7.trans e8).seqT (SqT.of h6)) rfl ((e6.trans (e7.trans e8)).seqT (SqT.of h5)) .nil) (.cons (Dp.same ek _ _ d3') .nil))))⟩
    · walk_at "all"
      refine ⟨XS.sz (by simp), fun t5 ht5 => ?_⟩
      obtain ⟨e5, h5⟩ := XS.newly (o := HO.tup _) ht5
      generalize hGH5 : upd _ t5 _ = H5 at e5 h5 ⊢
      walk_at "go"
      refine ⟨XS.sz (by simp), fun t6 ht6 => ?_⟩
      obtain ⟨e6, h6⟩ := XS.newly (o := HO.tup _) ht6
      generalize hGH6 : upd _ t6 _ = H6 at e6 h6 ⊢
      walk_at "go"
      refine ⟨XS.sz (by simp), fun t7 ht7 => ?_⟩
      obtain ⟨e7, h7⟩ := XS.newly (o := HO.tup _) ht7
      generalize hGH7 : upd _ t7 _ = H7 at e7 h7 ⊢
      walk_at "go"
      refine ⟨XS.sz (by simp), fun t8 ht8 => ?_⟩
      obtain ⟨e8, h8⟩ := XS.newly (o := HO.tup _) ht8
      generalize hGH8 : upd _ t8 _ = H8 at e8 h8 ⊢
      walk_at "go"
      refine ⟨XS.sz (by simp), fun t9 ht9 => ?_⟩
      obtain ⟨e9, h9⟩ := XS.newly (o := HO.tup _) ht9
      generalize hGH9 : upd _ t9 _ = H9 at e9 h9 ⊢
      walk_at "go"
      walk_at "all"
      have ek := (e5.trans (e6.trans (e7.trans (e8.trans e9))))
      exact ⟨_, _, _, _, t9, rfl, e3.trans (e4.trans ek), (XS.Dp.mkCon (o := true) (l := [.neg (.neg A1), .neg E1]) (SqT.of h9) rfl (e9.seqT (SqT.of h8)) (.cons (XS.Dp.mkNeg ((e7.trans (e8.trans e9)).seqT (SqT.of h6)) (XS.Dp.mkNeg ((e6.trans (e7.trans (e8.trans e9))).seqT (SqT.of h5)) (Dp.same ek _ _ d3'))) (.cons (XS.Dp.mkNeg ((e8.trans e9).seqT (SqT.of h7)) (Dp.same ek _ _ d4)) .nil)))⟩
    · walk_at "all"
      refine ⟨XS.sz (by simp), fun t5 ht5 => ?_⟩
      obtain ⟨e5, h5⟩ := XS.newly (o := HO.tup _) ht5
      generalize hGH5 : upd _ t5 _ = H5 at e5 h5 ⊢
      walk_at "go"
      refine ⟨XS.sz (by simp), fun t6 ht6 => ?_⟩
      obtain ⟨e6, h6⟩ := XS.newly (o := HO.tup _) ht6
      generalize hGH6 : upd _ t6 _ = H6 at e6 h6 ⊢
      walk_at "go"
      refine ⟨XS.sz (by simp), fun t7 ht7 => ?_⟩
      obtain ⟨e7, h7⟩ := XS.newly (o := HO.tup _) ht7
      generalize hGH7 : upd _ t7 _ = H7 at e7 h7 ⊢
      walk_at "go"
      refine ⟨XS.sz (by simp), fun t8 ht8 => ?_⟩
      obtain ⟨e8, h8⟩ := XS.newly (o := HO.tup _) ht8
      generalize hGH8 : upd _ t8 _ = H8 at e8 h8 ⊢
      walk_at "go"
      refine ⟨XS.sz (by simp), fun t9 ht9 => ?_⟩
      obtain ⟨e9, h9⟩ := XS.newly (o := HO.tup _) ht9
      generalize hGH9 : upd _ t9 _ = H9 at e9 h9 ⊢
      walk_at "go"
      refine ⟨XS.sz (by simp), fun t10 ht10 => ?_⟩
      obtain ⟨e10, h10⟩ := XS.newly (o := HO.tup _) ht10
      generalize hGH10 : upd _ t10 _ = H10 at e10 h10 ⊢
      walk_at "go"
      refine ⟨XS.sz (by simp), fun t11 ht11 => ?_⟩
      obtain ⟨e11, h11⟩ := XS.newly (o := HO.tup _) ht11
      generalize hGH11 : upd _ t11 _ = H11 at e11 h11 ⊢
      walk_at "go"
      refine ⟨XS.sz (by simp), fun t12 ht12 => ?_⟩
      obtain ⟨e12, h12⟩ := XS.newly (o := HO.tup _) ht12
      generalize hGH12 : upd _ t12 _ = H12 at e12 h12 ⊢
      walk_at "go"
      walk_at "all"
      have ek := (e5.trans (e6.trans (e7.trans (e8.trans (e9.trans (e10.trans (e11.trans e12)))))))
      exact ⟨_, _, _, _, t12, rfl, e3.trans (e4.trans ek), (XS.Dp.mkCon (o := true) (l := [.con false [A1], .con false [.con true [E1]]]) (SqT.of h12) rfl (e12.seqT (SqT.of h11)) (.cons (XS.Dp.mkCon (o := false) (l := [A1]) ((e7.trans (e8.trans (e9.trans (e10.trans (e11.trans e12))))).seqT (SqT.of h6)) rfl ((e6.trans (e7.trans (e8.trans (e9.trans (e10.trans (e11.trans e12)))))).seqT (SqT.of h5)) (.cons (Dp.same ek _ _ d3') .nil)) (.cons (XS.Dp.mkCon (o := false) (l := [.con true [E1]]) ((e11.trans e12).seqT (SqT.of h10)) rfl ((e10.trans (e11.trans e12)).seqT (SqT.of h9)) (.cons (XS.Dp.mkCon (o := true) (l := [E1]) ((e9.trans (e10.trans (e11.trans e12))).seqT (SqT.of h8)) rfl ((e8.trans (e9.trans (e10.trans (e11.trans e12)))).seqT (SqT.of h7)) (.cons (Dp.same ek _ _ d4) .nil)) .nil)) .nil)))⟩
    · walk_at "all"
      refine ⟨XS.sz (by simp), fun l1 hl1 => ?_⟩
      obtain ⟨e5, h5⟩ := XS.newly (o := HO.lst _) hl1
      generalize hGH5 : upd _ l1 _ = H5 at e5 h5 ⊢
      walk_at "go"
      have hb0 := Int.emod_nonneg (c / 9) (by decide : (2 : Int) ≠ 0)
      have hb1 := Int.emod_lt_of_pos (c / 9) (by decide : (0 : Int) < 2)
      have hd0 := Int.emod_nonneg (c / 18) (by decide : (18 : Int) ≠ 0)
      have hd1 := Int.emod_lt_of_pos (c / 18) (by decide : (0 : Int) < 18)
      obtain ⟨wd', hwa, hwe⟩ : ∃ wd' : Str, atI [V.str "and", V.str "or"] (c / 9 % 2) = some (.str wd') ∧ wd' = conW (decide (c / 9 % 2 = 0)) := by
        rcases (by omega : c / 9 % 2 = 0 ∨ c / 9 % 2 = 1) with e | e <;> rw [e] <;> exact ⟨_, rfl, rfl⟩
      refine XS.x_ixL (SqL.of h5) hwa ?_
      walk_at "go"
      refine ⟨XS.sz (by simp), fun t6 ht6 => ?_⟩
      obtain ⟨e6, h6⟩ := XS.newly (o := HO.tup _) ht6
      generalize hGH6 : upd _ t6 _ = H6 at e6 h6 ⊢
      walk_at "go"
      refine ⟨XS.sz (by simp), fun t7 ht7 => ?_⟩
      obtain ⟨e7, h7⟩ := XS.newly (o := HO.tup _) ht7
      generalize hGH7 : upd _ t7 _ = H7 at e7 h7 ⊢
      walk_at "go"
      refine x_repU (SqT.of h7) (by simp) (by omega) (by omega) (by simp) fun t8 H8 e8 h8 => ?_
      rw [rep_one] at h8
      walk_at "go"
      refine x_catA (SqT.of (e8 _ _ (e7 _ _ h6))) h8 (by simp) (by simp; omega) (by simp; omega) fun t9 H9 e9 h9 => ?_
      walk_at "go"
      refine ⟨XS.sz (by simp), fun t10 ht10 => ?_⟩
      obtain ⟨e10, h10⟩ := XS.newly (o := HO.tup _) ht10
      generalize hGH10 : upd _ t10 _ = H10 at e10 h10 ⊢
      walk_at "go"
      walk_at "all"
      have ek := e5.trans (e6.trans (e7.trans (e8.trans (e9.trans e10))))
      have dE := Dp.same ek _ _ d4
      have dl : DpAll K H10 ([.ref t4, .ref t4, .ref t] ++ List.replicate (1 + c / 18 % 18).toNat (.ref t4)) (([E1, E1, A1] ++ List.replicate (1 + c / 18 % 18).toNat E1).map toD) := by
        rw [List.map_append, List.map_replicate]
        exact DpAll.app (.cons dE (.cons dE (.one (Dp.same ek _ _ d3')))) (XS.DpAll.rep dE _)
      exact ⟨_, _, _, _, t10, rfl, e3.trans (e4.trans ek), XS.Dp.mkCon (SqT.of h10) hwe (SqT.of (e10 _ _ h9)) dl⟩
  · rintro σ H' ⟨y8, y9, y10, y11, t, rfl, e3, d3⟩
    walk_at "go"
    exact q _ _ (e1.trans (e2.trans e3)) d3

abbrev s_parts_within : Stmt := topS 18
abbrev N_parts_within : List Str := ["statement", "kind"]
abbrev P_parts_within : List Str := ["statement"]
theorem sc_parts_within : FnScope N_parts_within P_parts_within (defScope s_parts_within) := ⟨rfl, rfl, rfl, by decide +kernel, rfl, by decide +kernel, by decide +kernel⟩
theorem d_parts_within {oS bN : Addr} (Cn : Cs K mg oS bN) (F : FunAt K mg "parts_within" s_parts_within P_parts_within) (Z : Bl mg) : DefAt P w K mg base CX0 1 "parts_within" P_parts_within (sp_parts K) := by
  refine F.ok sc_parts_within (fun vs H Q E h => ?_) (fun f cdv A outer s H vs Q E hr h => ?_)
  · obtain ⟨_, _, rfl, _⟩ := h
    rfl
  obtain ⟨v, a, rfl, h1, q⟩ := h
  refine ⟨_, (pss_cons (ps_set (i := 1) sc_parts_within.nd rfl (Or.inl rfl) (pe_ix (ix_tupK K) (pv 0) pe_int (fun _ _ => rfl)))
        (pss_cons (ps_if (pt_cmpR (op_inK K) (pv 1) (pe_glob (v := .ref _) rfl Cn.c_OVER_SUMS rfl) (by rfl))
          (pss_one (ps_ret (pe_tup pa_nil))) pss_nil)
        (pss_cons (ps_if (pt_cmpR op_eq (pv 1) pe_str (nomark _))
          (pss_one (ps_ret (pe_tup (pa_cons (pe_ix (ix_tupK K) (pv 0) pe_int (fun _ _ => rfl)) pa_nil)))) pss_nil)
        (pss_cons (ps_if (pt_cmpR (op_inK K) (pv 1) (pe_glob (v := .ref _) rfl Cn.c_BINDING rfl) (by rfl))
          (pss_one (ps_ret (pe_tup (pa_cons (pe_ix (ix_tupK K) (pv 0) pe_int (fun _ _ => rfl)) pa_nil)))) pss_nil)
        (pss_one (ps_ret (pe_ix (ix_tupK K) (pv 0) pe_int (fun _ _ => rfl)))))))), ?_⟩
  obtain ⟨p, us, rfl, hp, ds, eds, hds⟩ := Dp.stm h1
  walk_at "go"
  refine XS.x_ixT hp (XS.atI_get (i := 0) rfl) ?_
  walk_at "go"
  refine XS.x_inT (Cn.s_OVER_SUMS _) (in_over a) rfl ?_
  walk_at "go"
  have none : isEnd a = true → parts a = [] := fun e => by cases a <;> first | rfl | cases e
  refine XS.x_2 (fun e => ?_) (fun e => ?_)
  · walk_at "go"
    refine ⟨XS.sz (by simp), fun t ht => ?_⟩
    obtain ⟨e1, h5⟩ := XS.newly (o := HO.tup _) ht
    refine q t _ e1 ?_
    rw [none e]
    exact .tup (SqT.of h5) .nil
  · walk_at "go"
    rw [is_not]
    cases a with
    | above | nought | goes => cases e
    | neg c =>
      refine XS.x_yes rfl ?_
      walk_at "go"
      cases eds
      cases hds with
      | cons g1 g2 =>
      cases g2
      refine XS.x_ixT hp (XS.atI_get (i := 1) rfl) ?_
      walk_at "go"
      refine ⟨XS.sz (by simp), fun t ht => ?_⟩
      obtain ⟨e1, h5⟩ := XS.newly (o := HO.tup _) ht
      exact q t _ e1 (.tup (SqT.of h5) (.one (Dp.same e1 _ _ g1)))
    | con o l =>
      refine XS.x_no rfl ?_
      walk_at "go"
      refine XS.x_inT (Cn.s_BINDING _) (in_bind _) rfl ?_
      walk_at "go"
      refine XS.x_no rfl ?_
      walk_at "go"
      cases eds
      cases hds with
      | cons g1 g2 =>
      cases g2
      refine XS.x_ixT hp (XS.atI_get (i := 1) rfl) ?_
      rw [toDs_map] at g1
      cases g1 with
      | tup hs ha => exact q _ _ (Same.refl _) (.tup hs ha)
    | bnd o x c =>
      refine XS.x_no rfl ?_
      walk_at "go"
      refine XS.x_inT (Cn.s_BINDING _) (in_bind _) rfl ?_
      walk_at "go"
      refine XS.x_yes rfl ?_
      walk_at "go"
      cases eds
      cases hds with
      | cons g1 g2 =>
      cases g1
      cases g2 with
      | cons g3 g4 =>
      cases g4
      refine XS.x_ixT hp (XS.atI_get (i := 2) rfl) ?_
      walk_at "go"
      refine ⟨XS.sz (by simp), fun t ht => ?_⟩
      obtain ⟨e1, h5⟩ := XS.newly (o := HO.tup _) ht
      exact q t _ e1 (.tup (SqT.of h5) (.one (Dp.same e1 _ _ g3)))

abbrev s_is_plain : Stmt := topS 15
abbrev N_is_plain : List Str := ["statement", "part"]
abbrev P_is_plain : List Str := ["statement"]
theorem sc_is_plain : FnScope N_is_plain P_is_plain (defScope s_is_plain) := ⟨rfl, rfl, rfl, by decide +kernel, rfl, by decide +kernel, by decide +kernel⟩
theorem plain_step {n : Nat} {oS bN : Addr} (Cn : Cs K mg oS bN) (F : FunAt K mg "is_plain" s_is_plain P_is_plain) (Z : Bl mg) (D_parts_within : DefAt P w K mg base CX0 1 "parts_within" P_parts_within (sp_parts K))
    (D_is_plain : DefAt P w K mg base CX0 (n + 1) "is_plain" P_is_plain (sp_is_plain n K)) : DefAt P w K mg base CX0 (n + 2) "is_plain" P_is_plain (sp_is_plain (n + 1) K) := by
  refine F.ok sc_is_plain (fun vs H Q E h => ?_) (fun f cdv A outer s H vs Q E hr h => ?_)
  · obtain ⟨_, _, rfl, _⟩ := h
    rfl
  obtain ⟨v, a, rfl, h1, hn, q⟩ := h
  refine ⟨_, (pss_cons (ps_if (pt_cmpR (op_inK K) (pe_ix (ix_tupK K) (pv 0) pe_int (fun _ _ => rfl)) (pe_glob (v := .ref _) rfl Cn.c_BINDING rfl) (by rfl))
          (pss_one (ps_ret pe_bl)) pss_nil)
        (pss_cons (ps_for PassesOwn.never rfl (pi_tupK K (pe_callD D_parts_within (hr.mono (by first | exact Nat.le_refl _ | omega | decide)) rfl pass0 (pa_cons (pv 0) pa_nil))) (pg_name (i := 1) sc_is_plain.nd rfl (Or.inl rfl))
          (pss_one (ps_if (pt_not (pt_val (pe_callD D_is_plain (hr.mono (by first | exact Nat.le_refl _ | omega | decide)) rfl pass0 (pa_cons (pv 1) pa_nil))))
          (pss_one (ps_ret pe_bl)) pss_nil)))
        (pss_one (ps_ret pe_bl)))), ?_⟩
  obtain ⟨p, us, rfl, hp, ds, eds, hds⟩ := Dp.stm h1
  walk_at "go"
  refine XS.x_ixT hp (XS.atI_get (i := 0) rfl) ?_
  walk_at "go"
  refine XS.x_inT (Cn.s_BINDING _) (in_bind a) rfl ?_
  walk_at "go"
  refine XS.x_2 (fun e => ?_) (fun e => ?_)
  · walk_at "go"
    have ee : plainB a = false := by rw [plainB_eq, e]; rfl
    rw [ee] at q
    exact q _ (Same.refl _)
  · walk_at "go"
    refine ⟨_, a, rfl, h1, fun t H1 e1 d1 => ?_⟩
    walk_at "go"
    cases d1 with
    | tup hs ha =>
    have l1 := ha.len
    rw [List.length_map] at l1
    refine XS.x_forT hs (fun i σ H' => ∃ y1 : Option V, σ = [some (.ref p), y1] ∧ Same H1 H' ∧ ((parts a).take i).all plainB = true) ⟨none, rfl, Same.refl _, by rw [List.take_zero]; rfl⟩ (fun i σ H' _ ⟨_, _, e, _⟩ => e.seqT hs) ?_ ?_
    · rintro i u σ H' hi ⟨y1, rfl, e2, al⟩
      have hlt : i < (parts a).length := by rw [← l1]; exact (List.getElem?_eq_some_iff.mp hi).1
      have hb : (parts a)[i]? = some (parts a)[i] := List.getElem?_eq_getElem hlt
      generalize (parts a)[i] = b at hb
      have hmem := List.mem_of_getElem? hb
      obtain ⟨dd, hdd, du⟩ := (DpAll.same e2 _ _ ha).getV hi
      rw [List.getElem?_map, hb] at hdd
      cases hdd
      walk_at "go"
      refine ⟨_, b, rfl, du, by have := dep_parts hmem; omega, fun H3 e3 => ?_⟩
      walk_at "go"
      cases hpb : plainB b with
      | true =>
        walk_at "go"
        refine ⟨_, rfl, e2.trans e3, ?_⟩
        rw [XS.take_more hb, List.all_append, al]
        simp [hpb]
      | false =>
        walk_at "go"
        have ee : plainB a = false := by
          rw [plainB_eq, e]
          have : (parts a).all plainB = false := Bool.eq_false_iff.mpr fun t => by rw [List.all_eq_true.mp t b hmem] at hpb; cases hpb
          rw [this]; rfl
        rw [ee] at q
        exact q _ (e1.trans (e2.trans e3))
    · rintro σ H' ⟨y1, rfl, e2, al⟩
      walk_at "go"
      rw [l1, List.take_length] at al
      have ee : plainB a = true := by rw [plainB_eq, e, al]; rfl
      rw [ee] at q
      exact q _ (e1.trans e2)
theorem plain_all {oS bN : Addr} (Cn : Cs K mg oS bN) (F : FunAt K mg "is_plain" s_is_plain P_is_plain) (Z : Bl mg) (D : DefAt P w K mg base CX0 1 "parts_within" P_parts_within (sp_parts K)) : ∀ n, DefAt P w K mg base CX0 (n + 1) "is_plain" P_is_plain (sp_is_plain n K)
  | 0 => F.never fun vs H Q E h => by
    obtain ⟨_, a, _, _, hn, _⟩ := h
    have := dep_pos a
    omega
  | n + 1 => plain_step Cn F Z D (plain_all Cn F Z D n)

abbrev s_refuse_unless_plain : Stmt := topS 17
abbrev N_refuse_unless_plain : List Str := ["statement"]
abbrev P_refuse_unless_plain : List Str := ["statement"]
theorem sc_refuse_unless_plain : FnScope N_refuse_unless_plain P_refuse_unless_plain (defScope s_refuse_unless_plain) := ⟨rfl, rfl, rfl, by decide +kernel, rfl, by decide +kernel, by decide +kernel⟩
theorem d_refuse_unless_plain {eS eV eP eN : Addr} (Y : Er K mg eS eV eP eN) (F : FunAt K mg "refuse_unless_plain" s_refuse_unless_plain P_refuse_unless_plain) (Z : Bl mg) (D_is_plain : DefAt P w K mg base CX0 61 "is_plain" P_is_plain (sp_is_plain 60 K)) :
    DefAt P w K mg base (L2.CX P w) 62 "refuse_unless_plain" P_refuse_unless_plain (sp_refuse K eP) := by
  refine F.okX sc_refuse_unless_plain (fun vs H Q E h => ?_) (fun f cdv A outer s H vs Q E hr h => ?_)
  · obtain ⟨_, _, rfl, _⟩ := h
    rfl
  obtain ⟨v, a, rfl, h1, hn, q1, q2⟩ := h
  refine ⟨_, (pss_one (ps_if (pt_not (pt_val (pe_callD D_is_plain (hr.mono (by first | exact Nat.le_refl _ | omega | decide)) rfl pass0 (pa_cons (pv 0) pa_nil))))
          (pss_one (ps_raise rfl (takes_of rfl rfl rfl rfl) (pmk_ownA PySem.F.excBase_ValueError Y.x_NotPlain Y.g_NotPlain Y.k_NotPlain (raises_own Y.b_NotPlain Y.t_NotPlain) rfl (pa_cons pe_str pa_nil)))) pss_nil)), ?_⟩
  walk_at "go"
  refine ⟨v, a, rfl, h1, hn, fun H1 e1 => ?_⟩
  walk_at "go"
  cases hp : plainB a with
  | true =>
    walk_at "go"
    exact q1 hp _ e1
  | false =>
    walk_at "go"
    exact ⟨XS.sz (by simp), q2 hp _ e1⟩

abbrev s__put_within : Stmt := topS 19
abbrev N__put_within : List Str := ["statement", "name", "other", "kind", "parts", "part"]
abbrev P__put_within : List Str := ["statement", "name", "other"]
theorem sc__put_within : FnScope N__put_within P__put_within (defScope s__put_within) := ⟨rfl, rfl, rfl, by decide +kernel, rfl, by decide +kernel, by decide +kernel⟩
theorem put_step {n : Nat} {oS bN : Addr} (Cn : Cs K mg oS bN) (F : FunAt K mg "_put_within" s__put_within P__put_within) (Z : Bl mg) (D_put_in : DefAt P w K mg base CX0 3 "put_in" P_put_in (sp_put_in K))
    (D__put_within : DefAt P w K mg base CX0 (n + 3) "_put_within" P__put_within (sp_put_within n K)) : DefAt P w K mg base CX0 (n + 4) "_put_within" P__put_within (sp_put_within (n + 1) K) := by
  refine F.ok sc__put_within (fun vs H Q E h => ?_) (fun f cdv A outer s H vs Q E hr h => ?_)
  · obtain ⟨_, _, _, _, _, rfl, _⟩ := h
    rfl
  obtain ⟨v, u, x, a, o, rfl, h1, ho, so, pl, ev, hn, q⟩ := h
  refine ⟨_, (pss_cons (ps_set (i := 3) sc__put_within.nd rfl (Or.inl rfl) (pe_ix (ix_tupK K) (pv 0) pe_int (fun _ _ => rfl)))
        (pss_cons (ps_if (pt_cmpR (op_inK K) (pv 3) (pe_glob (v := .ref _) rfl Cn.c_OVER_SUMS rfl) (by rfl))
          (pss_one (ps_ret (pe_tup (pa_starK K (pe_slice (sl_tupK K) (pv 0) po_none (po_some (pe_un un_neg pe_int))) (pa_cons (pe_callD D_put_in (hr.mono (by first | exact Nat.le_refl _ | omega | decide)) rfl pass0 (pa_cons (pe_ix (ix_tupK K) (pv 0) (pe_un un_neg pe_int) (fun _ _ => rfl)) (pa_cons (pv 1) (pa_cons (pv 2) pa_nil)))) pa_nil))))) pss_nil)
        (pss_cons (ps_if (pt_cmpR op_eq (pv 3) pe_str (nomark _))
          (pss_one (ps_ret (pe_tup (pa_cons (pv 3) (pa_cons (pe_callD D__put_within (hr.mono (by first | exact Nat.le_refl _ | omega | decide)) rfl pass0 (pa_cons (pe_ix (ix_tupK K) (pv 0) pe_int (fun _ _ => rfl)) (pa_cons (pv 1) (pa_cons (pv 2) pa_nil)))) pa_nil))))) pss_nil)
        (pss_cons (ps_set (i := 4) sc__put_within.nd rfl (Or.inl rfl) (pe_lst pa_nil))
        (pss_cons (ps_for PassesOwn.never rfl (pi_tupK K (pe_ix (ix_tupK K) (pv 0) pe_int (fun _ _ => rfl))) (pg_name (i := 5) sc__put_within.nd rfl (Or.inl rfl))
          (pss_one (ps_expr (pe_bm PySem.F.plainAttrs_list PySem.F.slot_list_append PySem.F.type_list_append mt_append (pv 4) (pa_cons (pe_callD D__put_within (hr.mono (by first | exact Nat.le_refl _ | omega | decide)) rfl pass0 (pa_cons (pv 5) (pa_cons (pv 1) (pa_cons (pv 2) pa_nil)))) pa_nil)))))
        (pss_one (ps_ret (pe_tup (pa_cons (pv 3) (pa_cons (pe_callTy (call_tupK K) (by rfl) Z.tuple (by decide +kernel) (pa_cons (pv 4) pa_nil)) pa_nil)))))))))), ?_⟩
  obtain ⟨p, us, rfl, hp, ds, eds, hds⟩ := Dp.stm h1
  walk_at "go"
  refine XS.x_ixT hp (XS.atI_get (i := 0) rfl) ?_
  walk_at "go"
  refine XS.x_inT (Cn.s_OVER_SUMS _) (in_over a) rfl ?_
  walk_at "go"
  refine XS.x_2 (fun e => ?_) (fun e => ?_)
  · walk_at "go"
    obtain ⟨p', hd, u2, ep, hp', hl, hne, hsum, mk⟩ := end_tup e h1
    cases ep
    have ok : PutOk o (sumOf a) := by
      cases ev with
      | above h | nought h | goes h _ => exact h
      | neg _ | con _ _ | bnd _ => cases e
    refine XS.x_cutLast hp' fun t1 H1 e1 k1 => ?_
    refine ⟨t1, hd, rfl, .inl (SqT.of k1), ?_⟩
    walk_at "go"
    refine XS.x_ixT (e1.seqT hp') XS.atI_last ?_
    walk_at "go"
    refine ⟨u2, u, sumOf a, o, x, rfl, Dp.same e1 _ _ hsum, Dp.same e1 _ _ ho, ok.1, ok.2.1, ok.2.2, so, fun t2 H2 e2 d2 => ?_⟩
    walk_at "go"
    refine ⟨XS.sz (by simp; omega), fun t3 ht3 => ?_⟩
    obtain ⟨e3, k3⟩ := XS.newly (o := HO.tup _) ht3
    refine q t3 _ (e1.trans (e2.trans e3)) ?_
    rw [mapS_end e]
    exact mk _ _ _ _ (SqT.of k3) (Dp.same e3 _ _ d2)
  · walk_at "go"
    rw [is_not]
    cases a with
    | above | nought | goes => cases e
    | bnd o x c => cases pl
    | neg c =>
      refine XS.x_yes rfl ?_
      walk_at "go"
      cases eds
      cases hds with
      | cons g1 g2 =>
      refine XS.x_ixT hp (XS.atI_get (i := 1) rfl) ?_
      walk_at "go"
      refine ⟨_, u, x, c, o, rfl, g1, ho, so, pl, ev.parts (by simp [parts]), Nat.le_of_succ_le_succ hn, fun t1 H1 e1 d1 => ?_⟩
      walk_at "go"
      refine ⟨XS.sz (by simp), fun t2 ht2 => ?_⟩
      obtain ⟨e2, k2⟩ := XS.newly (o := HO.tup _) ht2
      exact q t2 _ (e1.trans e2) (XS.Dp.mkNeg (SqT.of k2) (Dp.same e2 _ _ d1))
    | con b l =>
      refine XS.x_no rfl ?_
      walk_at "go"
      cases eds
      cases hds with
      | cons g1 g2 =>
      rw [toDs_map] at g1
      cases g1 with
      | tup hs ha =>
      have l1 := ha.len
      rw [List.length_map] at l1
      have l64 : l.length ≤ 64 := ev.parts_len
      refine ⟨XS.sz (by simp), fun r1 hr1 => ?_⟩
      obtain ⟨e1, k1⟩ := XS.newly (o := HO.lst _) hr1
      generalize hGH1 : upd _ r1 _ = H1 at e1 k1 ⊢
      walk_at "go"
      refine XS.x_ixT (e1.seqT hp) (XS.atI_get (i := 1) rfl) ?_
      refine XS.x_forT (e1.seqT hs) (fun i σ H' => ∃ (y5 : Option V) (acc : List V), σ = [some (.ref p), some (.str x), some u, some (.str (headW (Stm.con b l))), some (.ref r1), y5] ∧ Same H H' ∧ H' r1 = some (.lst acc) ∧ DpAll K H' acc (((l.take i).map (mapS fun s => putS s x o)).map toD)) ⟨none, [], rfl, e1, k1, .nil⟩ (fun i σ H' _ ⟨_, _, _, e, _⟩ => e.seqT hs) ?_ ?_
      · rintro i z σ H' hi ⟨y5, acc, rfl, e4, k4, d4⟩
        have hlt : i < l.length := by rw [← l1]; exact (List.getElem?_eq_some_iff.mp hi).1
        have hc : l[i]? = some l[i] := List.getElem?_eq_getElem hlt
        generalize l[i] = c at hc
        have hmem := List.mem_of_getElem? hc
        obtain ⟨dd, hdd, du⟩ := (DpAll.same e4 _ _ ha).getV hi
        rw [List.getElem?_map, hc] at hdd
        cases hdd
        walk_at "go"
        refine XS.x_tyL' (XS.x_tyL k4) ?_
        walk_at "go"
        refine ⟨z, u, x, c, o, rfl, du, Dp.same e4 _ _ ho, so, plain_part pl hmem, ev.parts hmem, by have := dep_in hmem; exact Nat.le_of_succ_le_succ (Nat.le_trans (Nat.succ_le_succ this) hn), fun t5 H5 e5 d5 => ?_⟩
        walk_at "go"
        have k5 := e5 _ _ k4
        have kk := keeps_lst (ys := acc ++ [.ref t5]) k5
        have la := d4.len
        rw [List.length_map, List.length_map, List.length_take] at la
        refine XS.x_app k5 (szl (by omega)) ?_
        refine ⟨_, acc ++ [.ref t5], rfl, XS.same_mut (e4.trans e5) hr1, upd_same, ?_⟩
        rw [XS.take_more hc, List.map_append, List.map_append]
        refine (DpAll.keeps kk _ _ (fun d hd => ?_) (DpAll.same e5 _ _ d4)).app (.one (Dp.keeps kk _ _ (im_stm _) d5))
        obtain ⟨z, _, rfl⟩ := List.mem_map.mp hd
        exact im_stm z
      · rintro σ H' ⟨y5, acc, rfl, e4, k4, d4⟩
        rw [l1, List.take_length] at d4
        walk_at "go"
        refine XS.x_tupL (SqL.of k4) fun t6 H6 ht6 e6 k6 => ?_
        walk_at "go"
        refine ⟨XS.sz (by simp), fun t7 ht7 => ?_⟩
        obtain ⟨e7, k7⟩ := XS.newly (o := HO.tup _) ht7
        refine q t7 _ (e4.trans (e6.trans e7)) ?_
        rw [mapS_con]
        exact XS.Dp.mkCon (SqT.of k7) rfl (e7.seqT (SqT.of k6)) (DpAll.same (e6.trans e7) _ _ d4)
theorem put_all {oS bN : Addr} (Cn : Cs K mg oS bN) (F : FunAt K mg "_put_within" s__put_within P__put_within) (Z : Bl mg) (D_put_in : DefAt P w K mg base CX0 3 "put_in" P_put_in (sp_put_in K)) : ∀ n, DefAt P w K mg base CX0 (n + 3) "_put_within" P__put_within (sp_put_within n K)
  | 0 => F.never fun vs H Q E h => by
    obtain ⟨_, _, _, a, _, _, _, _, _, _, _, hn, _⟩ := h
    have := dep_pos a
    omega
  | n + 1 => put_step Cn F Z D_put_in (put_all Cn F Z D_put_in n)
abbrev s_put : Stmt := topS 16
abbrev N_put : List Str := ["statement", "name", "other"]
abbrev P_put : List Str := ["statement", "name", "other"]
theorem sc_put : FnScope N_put P_put (defScope s_put) := ⟨rfl, rfl, rfl, by decide +kernel, rfl, by decide +kernel, by decide +kernel⟩
theorem d_put {eS eV eP eN : Addr} (Y : Er K mg eS eV eP eN) (F : FunAt K mg "put" s_put P_put) (Z : Bl mg) (D_refuse_unless_plain : DefAt P w K mg base (L2.CX P w) 62 "refuse_unless_plain" P_refuse_unless_plain (sp_refuse K eP))
    (D__put_within : DefAt P w K mg base CX0 63 "_put_within" P__put_within (sp_put_within 60 K)) : DefAt P w K mg base (L2.CX P w) 64 "put" P_put (sp_put K eP) := by
  refine F.okX sc_put (fun vs H Q E h => ?_) (fun f cdv A outer s H vs Q E hr h => ?_)
  · obtain ⟨_, _, _, _, _, rfl, _⟩ := h
    rfl
  obtain ⟨v, u, x, a, o, rfl, h1, ho, so, ev, hn, q1, q2⟩ := h
  refine ⟨_, (pss_cons (ps_expr (pe_callX D_refuse_unless_plain (hr.mono (by first | exact Nat.le_refl _ | omega | decide)) rfl (fun σ => passAt (takes_of rfl rfl rfl rfl) σ) (pa_cons (pv 0) pa_nil)))
        (pss_one (ps_ret (pe_callD D__put_within (hr.mono (by first | exact Nat.le_refl _ | omega | decide)) rfl pass0 (pa_cons (pv 0) (pa_cons (pv 1) (pa_cons (pv 2) pa_nil))))))), ?_⟩
  walk_at "go"
  refine ⟨v, a, rfl, h1, hn, fun hp H1 e1 => ?_, fun hp H1 e1 => q2 hp H1 e1⟩
  walk_at "go"
  refine ⟨v, u, x, a, o, rfl, Dp.same e1 _ _ h1, Dp.same e1 _ _ ho, so, hp, ev, hn, fun t H2 e2 d2 => ?_⟩
  exact q1 hp t H2 (e1.trans e2) d2

abbrev s__law_alike : Stmt := topS 28
abbrev N__law_alike : List Str := ["_law_got", "_law_due", "_law_k"]
abbrev P__law_alike : List Str := ["_law_got", "_law_due"]
theorem sc__law_alike : FnScope N__law_alike P__law_alike (defScope s__law_alike) := ⟨rfl, rfl, rfl, by decide +kernel, rfl, by decide +kernel, by decide +kernel⟩
theorem alike_step {n : Nat} (F : FunAt K mg "_law_alike" s__law_alike P__law_alike) (Z : Bl mg) (D__law_whole : DefAt P w K mg base CX0 1 "_law_whole" P__law_whole sp_whole)
    (D__law_alike : DefAt P w K mg base CX0 (n + 1) "_law_alike" P__law_alike (sp_alike n K)) : DefAt P w K mg base CX0 (n + 2) "_law_alike" P__law_alike (sp_alike (n + 1) K) := by
  refine F.ok sc__law_alike (fun vs H Q E h => ?_) (fun f cdv A outer s H vs Q E hr h => ?_)
  · obtain ⟨_, _, _, _, rfl, _⟩ := h
    rfl
  obtain ⟨g, e, d, k, rfl, hk, hg, he, al, q⟩ := h
  obtain rfl : k = n := by omega
  refine ⟨_, (pss_cons (ps_if (pt_cmpR op_isN (pv 1) pe_non (nomark _))
          (pss_one (ps_ret (pe_cmpR op_isN (pv 0) pe_non (nomark _)))) pss_nil)
        (pss_cons (ps_if (pt_cmpR op_isC (pv 1) pe_bl (nomark _))
          (pss_one (ps_ret (pe_cmpR op_isC (pv 0) pe_bl (nomark _)))) pss_nil)
        (pss_cons (ps_if (pt_val (pe_callB (call_isiK K) (by rfl) Z.isinstance (by decide +kernel) (pa_cons (pv 1) (pa_cons (pe_bltn (v := .ty "str") rfl Z.str (by decide +kernel) rfl) pa_nil))))
          (pss_one (ps_ret (pe_and (pe_callB (call_isiK K) (by rfl) Z.isinstance (by decide +kernel) (pa_cons (pv 0) (pa_cons (pe_bltn (v := .ty "str") rfl Z.str (by decide +kernel) rfl) pa_nil))) (pe_one (pe_cmpR op_eq (pv 0) (pv 1) (nomark _)))))) pss_nil)
        (pss_cons (ps_if (pt_val (pe_callB (call_isiK K) (by rfl) Z.isinstance (by decide +kernel) (pa_cons (pv 1) (pa_cons (pe_bltn (v := .ty "int") rfl Z.int (by decide +kernel) rfl) pa_nil))))
          (pss_one (ps_ret (pe_and (pe_callD D__law_whole (hr.mono (by first | exact Nat.le_refl _ | omega | decide)) rfl pass0 (pa_cons (pv 0) pa_nil)) (pe_one (pe_cmpR op_eq (pv 0) (pv 1) (nomark _)))))) pss_nil)
        (pss_cons (ps_if (PW.pt (pw_and (pt_val (pe_callB (call_isiK K) (by rfl) Z.isinstance (by decide +kernel) (pa_cons (pv 1) (pa_cons (pe_bltn (v := .ty "tuple") rfl Z.tuple (by decide +kernel) rfl) pa_nil)))) (pw_and1 (pt_not (pt_val (pe_callB (call_isiK K) (by rfl) Z.isinstance (by decide +kernel) (pa_cons (pv 0) (pa_cons (pe_bltn (v := .ty "tuple") rfl Z.tuple (by decide +kernel) rfl) pa_nil))))))))
          (pss_one (ps_ret pe_bl)) pss_nil)
        (pss_cons (ps_if (PW.pt (pw_and (pt_val (pe_callB (call_isiK K) (by rfl) Z.isinstance (by decide +kernel) (pa_cons (pv 1) (pa_cons (pe_bltn (v := .ty "list") rfl Z.list (by decide +kernel) rfl) pa_nil)))) (pw_and1 (pt_not (pt_val (pe_callB (call_isiK K) (by rfl) Z.isinstance (by decide +kernel) (pa_cons (pv 0) (pa_cons (pe_bltn (v := .ty "list") rfl Z.list (by decide +kernel) rfl) pa_nil))))))))
          (pss_one (ps_ret pe_bl)) pss_nil)
        (pss_cons (ps_if (pt_cmpR op_ne (pe_callB (call_lenK K) (by rfl) Z.len PySem.boot_len (pa_cons (pv 0) pa_nil)) (pe_callB (call_lenK K) (by rfl) Z.len PySem.boot_len (pa_cons (pv 1) pa_nil)) (nomark _))
          (pss_one (ps_ret pe_bl)) pss_nil)
        (pss_cons (ps_for PassesOwn.never rfl (pi_range1 rfl Z.range (pa_cons (pe_callB (call_lenK K) (by rfl) Z.len PySem.boot_len (pa_cons (pv 1) pa_nil)) pa_nil)) (pg_name (i := 2) sc__law_alike.nd rfl (Or.inl rfl))
          (pss_one (ps_if (pt_not (pt_val (pe_callD D__law_alike (hr.mono (by first | exact Nat.le_refl _ | omega | decide)) rfl pass0 (pa_cons (pe_ix (ix_seqK K) (pv 0) (pv 2) (fun _ _ => rfl)) (pa_cons (pe_ix (ix_seqK K) (pv 1) (pv 2) (fun _ _ => rfl)) pa_nil)))))
          (pss_one (ps_ret pe_bl)) pss_nil)))
        (pss_one (ps_ret pe_bl)))))))))), ?_⟩
  walk_at "go"
  refine ⟨rfl, ?_⟩
  walk_at "go"
  cases al with
  | non =>
    cases hg
    cases he
    refine XS.x_yes rfl ?_
    walk_at "go"
    exact ⟨rfl, q⟩
  | tru =>
    cases hg
    cases he
    refine XS.x_no rfl ?_
    walk_at "go"
    refine XS.x_is_yes ?_
    walk_at "go"
    exact XS.x_is_yes q
  | str x =>
    cases hg
    cases he
    refine XS.x_no rfl ?_
    walk_at "go"
    refine XS.x_is_no (by simp) ?_
    walk_at "go"
    refine XS.x_isi (.base (.str x)) XS.k_str_str ?_
    walk_at "go"
    refine XS.x_isi (.base (.str x)) XS.k_str_str ?_
    walk_at "go"
    rw [decide_eq_true rfl]
    exact q
  | int i =>
    cases hg
    cases he
    refine XS.x_no rfl ?_
    walk_at "go"
    refine XS.x_is_no (by simp) ?_
    walk_at "go"
    refine XS.x_isi (.base (.int i)) XS.k_int_str ?_
    walk_at "go"
    refine XS.x_isi (.base (.int i)) XS.k_int_int ?_
    walk_at "go"
    refine ⟨i, rfl, ?_⟩
    walk_at "go"
    rw [decide_eq_true rfl]
    exact q
  | tup hd hl =>
    cases hg with
    | tup hs ha =>
    cases he with
    | tup hs' ha' =>
    rename_i ds pg gs pe es
    have l1 := ha.len
    have l2 := ha'.len
    refine XS.x_no rfl ?_
    walk_at "go"
    refine XS.x_is_no (by simp) ?_
    walk_at "go"
    refine XS.x_isi (XS.tyx_T hs') XS.k_tup_str ?_
    walk_at "go"
    refine XS.x_isi (XS.tyx_T hs') XS.k_tup_int ?_
    walk_at "go"
    refine XS.x_isi (XS.tyx_T hs') XS.k_tup_tup ?_
    walk_at "go"
    refine XS.x_isi (XS.tyx_T hs) XS.k_tup_tup ?_
    walk_at "go"
    refine XS.x_isi (XS.tyx_T hs') XS.k_tup_lst ?_
    walk_at "go"
    refine XS.x_lenT hs ?_
    walk_at "go"
    refine XS.x_lenT hs' ?_
    walk_at "go"
    rw [show (gs.length : Int) = es.length by omega]
    refine XS.x_no (by simp) ?_
    walk_at "go"
    refine XS.x_lenT hs' ?_
    walk_at "go"
    refine XS.x_forR1 (by omega) (fun i σ H' => ∃ y : Option V, σ = [some (.ref pg), some (.ref pe), y] ∧ H' = H) ⟨none, rfl, rfl⟩ ?_ ?_
    · rintro i σ H' hi ⟨y, rfl, rfl⟩
      have hi' : i < ds.length := by omega
      obtain ⟨d, hdi⟩ : ∃ d, ds[i]? = some d := ⟨ds[i], List.getElem?_eq_getElem hi'⟩
      obtain ⟨u, hu1, hu2⟩ := ha.get hdi
      obtain ⟨u', hu1', hu2'⟩ := ha'.get hdi
      walk_at "go"
      refine .inr (.inl (XS.x_ixT hs (XS.atI_get hu1) ?_))
      walk_at "go"
      refine .inr (.inl (XS.x_ixT hs' (XS.atI_get hu1') ?_))
      walk_at "go"
      refine ⟨u, u', d, _, rfl, rfl, hu2, hu2', hd d (List.mem_of_getElem? hdi), ?_⟩
      walk_at "go"
      exact ⟨_, rfl, rfl⟩
    · rintro σ H' ⟨y, rfl, rfl⟩
      walk_at "go"
      exact q
  | lst hd hl =>
    cases hg with
    | lst hs ha =>
    cases he with
    | lst hs' ha' =>
    rename_i ds pg gs pe es
    have l1 := ha.len
    have l2 := ha'.len
    refine XS.x_no rfl ?_
    walk_at "go"
    refine XS.x_is_no (by simp) ?_
    walk_at "go"
    refine XS.x_isi (XS.tyx_L hs') XS.k_lst_str ?_
    walk_at "go"
    refine XS.x_isi (XS.tyx_L hs') XS.k_lst_int ?_
    walk_at "go"
    refine XS.x_isi (XS.tyx_L hs') XS.k_lst_tup ?_
    walk_at "go"
    refine XS.x_isi (XS.tyx_L hs') XS.k_lst_lst ?_
    walk_at "go"
    refine XS.x_isi (XS.tyx_L hs) XS.k_lst_lst ?_
    walk_at "go"
    refine XS.x_lenL hs ?_
    walk_at "go"
    refine XS.x_lenL hs' ?_
    walk_at "go"
    rw [show (gs.length : Int) = es.length by omega]
    refine XS.x_no (by simp) ?_
    walk_at "go"
    refine XS.x_lenL hs' ?_
    walk_at "go"
    refine XS.x_forR1 (by omega) (fun i σ H' => ∃ y : Option V, σ = [some (.ref pg), some (.ref pe), y] ∧ H' = H) ⟨none, rfl, rfl⟩ ?_ ?_
    · rintro i σ H' hi ⟨y, rfl, rfl⟩
      have hi' : i < ds.length := by omega
      obtain ⟨d, hdi⟩ : ∃ d, ds[i]? = some d := ⟨ds[i], List.getElem?_eq_getElem hi'⟩
      obtain ⟨u, hu1, hu2⟩ := ha.get hdi
      obtain ⟨u', hu1', hu2'⟩ := ha'.get hdi
      walk_at "go"
      refine .inl (XS.x_ixL hs (XS.atI_get hu1) ?_)
      walk_at "go"
      refine .inl (XS.x_ixL hs' (XS.atI_get hu1') ?_)
      walk_at "go"
      refine ⟨u, u', d, _, rfl, rfl, hu2, hu2', hd d (List.mem_of_getElem? hdi), ?_⟩
      walk_at "go"
      exact ⟨_, rfl, rfl⟩
    · rintro σ H' ⟨y, rfl, rfl⟩
      walk_at "go"
      exact q
theorem alike_all (F : FunAt K mg "_law_alike" s__law_alike P__law_alike) (Z : Bl mg) (D : DefAt P w K mg base CX0 1 "_law_whole" P__law_whole sp_whole) : ∀ n, DefAt P w K mg base CX0 (n + 1) "_law_alike" P__law_alike (sp_alike n K)
  | 0 => F.never fun vs H Q E h => by
    obtain ⟨_, _, _, k, _, hk, _⟩ := h
    omega
  | n + 1 => alike_step F Z D (alike_all F Z D n)

abbrev s__law_bound_by : Stmt := topS 29
abbrev N__law_bound_by : List Str := ["_law_cell", "_law_statement", "_law_names", "_law_inner", "_law_way"]
abbrev P__law_bound_by : List Str := ["_law_cell", "_law_statement", "_law_names"]
theorem sc__law_bound_by : FnScope N__law_bound_by P__law_bound_by (defScope s__law_bound_by) := ⟨rfl, rfl, rfl, by decide +kernel, rfl, by decide +kernel, by decide +kernel⟩
theorem d__law_bound_by (F : FunAt K mg "_law_bound_by" s__law_bound_by P__law_bound_by) (Z : Bl mg) : DefAt P w K mg base CX0 1 "_law_bound_by" P__law_bound_by (sp_bound_by K) := by
  refine F.ok sc__law_bound_by (fun vs H Q E h => ?_) (fun f cdv A outer s H vs Q E hr h => ?_)
  · obtain ⟨_, _, _, _, _, rfl, _⟩ := h
    rfl
  obtain ⟨c, v, nl, A1, names, rfl, hA, hN, hL, q⟩ := h
  refine ⟨_, (pss_cons (ps_set (i := 3) sc__law_bound_by.nd rfl (Or.inl rfl) (pe_tup (pa_cons (pe_ix (ix_listK K) (pe_lst (pa_cons pe_str (pa_cons pe_str pa_nil))) (pe_op op_mod (pv 0) pe_int) (fun _ _ => rfl)) (pa_cons (pe_ix (ix_listK K) (pv 2) (pe_op op_mod (pe_op op_fdiv (pv 0) pe_int) pe_int) (fun _ _ => rfl)) (pa_cons (pv 1) pa_nil)))))
        (pss_cons (ps_set (i := 4) sc__law_bound_by.nd rfl (Or.inl rfl) (pe_op op_mod (pe_op op_fdiv (pv 0) pe_int) pe_int))
        (pss_cons (ps_if (pt_cmpR op_eq (pv 4) pe_int (nomark _))
          (pss_one (ps_ret (pv 3))) pss_nil)
        (pss_cons (ps_if (pt_cmpR op_eq (pv 4) pe_int (nomark _))
          (pss_one (ps_ret (pe_tup (pa_cons pe_str (pa_cons (pv 3) pa_nil))))) pss_nil)
        (pss_cons (ps_if (pt_cmpR op_eq (pv 4) pe_int (nomark _))
          (pss_one (ps_ret (pe_tup (pa_cons pe_str (pa_cons (pe_tup (pa_cons (pv 1) (pa_cons (pv 3) pa_nil))) pa_nil))))) pss_nil)
        (pss_one (ps_ret (pe_tup (pa_cons pe_str (pa_cons (pe_tup (pa_cons (pe_tup (pa_cons pe_str (pa_cons (pe_tup pa_nil) pa_nil))) (pa_cons (pe_tup (pa_cons pe_str (pa_cons (pe_tup (pa_cons pe_str (pa_cons (pe_tup (pa_cons (pv 3) (pa_cons (pv 1) pa_nil))) pa_nil))) pa_nil))) pa_nil))) pa_nil)))))))))), ?_⟩
  walk_at "go"
  refine ⟨XS.sz (by simp), fun l3 hl3 => ?_⟩
  obtain ⟨e3, h3⟩ := XS.newly (o := HO.lst _) hl3
  generalize hGH3 : upd _ l3 _ = H3 at e3 h3 ⊢
  walk_at "go"
  have hb0 := Int.emod_nonneg c (by decide : (2 : Int) ≠ 0)
  have hb1 := Int.emod_lt_of_pos c (by decide : (0 : Int) < 2)
  obtain ⟨w1, hwa, hwe⟩ : ∃ w1 : Str, atI [V.str "some", V.str "all"] (c % 2) = some (.str w1) ∧ w1 = bndW (decide (c % 2 = 1)) := by
    rcases (by omega : c % 2 = 0 ∨ c % 2 = 1) with e | e <;> rw [e] <;> exact ⟨_, rfl, rfl⟩
  refine XS.x_ixL (SqL.of h3) hwa ?_
  walk_at "go"
  have hn0 := Int.emod_nonneg (c / 2) (by decide : (4 : Int) ≠ 0)
  have hn1 := Int.emod_lt_of_pos (c / 2) (by decide : (0 : Int) < 4)
  obtain ⟨x, hx, hxe⟩ : ∃ x, atI (names.map V.str) (c / 2 % 4) = some (.str x) ∧ x = names.getD (c / 2 % 4).toNat "" := by
    generalize c / 2 % 4 = k at hn0 hn1
    obtain ⟨j, rfl⟩ := Int.eq_ofNat_of_zero_le hn0
    have hj : j < names.length := by omega
    refine ⟨names[j], atI_nat (by rw [List.getElem?_map, List.getElem?_eq_getElem hj]; rfl), ?_⟩
    show names[j] = names.getD ((j : Int)).toNat ""
    rw [Int.toNat_natCast, List.getD_eq_getElem?_getD, List.getElem?_eq_getElem hj]
    rfl
  refine XS.x_ixL (e3.seq hN) hx ?_
  walk_at "go"
  refine ⟨XS.sz (by simp), fun t4 ht4 => ?_⟩
  obtain ⟨e4, h4⟩ := XS.newly (o := HO.tup _) ht4
  generalize hGH4 : upd _ t4 _ = H4 at e4 h4 ⊢
  walk_at "go"
  have e34 := e3.trans e4
  have d4 := Dp.same e34 _ _ hA
  have dI : Dp K H4 (.ref t4) (toD (Stm.bnd (decide (c % 2 = 1)) (names.getD (c / 2 % 4).toNat "") A1)) := by
    rw [← hxe]
    exact XS.Dp.mkBnd (SqT.of h4) hwe d4
  unfold boundBy at q
  dsimp only at q
  generalize Stm.bnd (decide (c % 2 = 1)) (names.getD (c / 2 % 4).toNat "") A1 = E1 at q dI
  refine XS.x_d (fun e => ?_) (fun e => ?_)
  · rw [if_pos e] at q
    walk_at "go"
    exact q _ _ e34 dI
  rw [if_neg e] at q
  walk_at "go"
  refine XS.x_d (fun e => ?_) (fun e => ?_)
  · rw [if_pos e] at q
    walk_at "go"
    refine ⟨XS.sz (by simp), fun t5 ht5 => ?_⟩
    obtain ⟨e5, h5⟩ := XS.newly (o := HO.tup _) ht5
    generalize hGH5 : upd _ t5 _ = H5 at e5 h5 ⊢
    walk_at "go"
    walk_at "go"
    have ek := e5
    exact q t5 _ (e34.trans ek) (XS.Dp.mkNeg (SqT.of h5) (Dp.same ek _ _ dI))
  rw [if_neg e] at q
  walk_at "go"
  refine XS.x_d (fun e => ?_) (fun e => ?_)
  · rw [if_pos e] at q
    walk_at "go"
    refine ⟨XS.sz (by simp), fun t5 ht5 => ?_⟩
    obtain ⟨e5, h5⟩ := XS.newly (o := HO.tup _) ht5
    generalize hGH5 : upd _ t5 _ = H5 at e5 h5 ⊢
    walk_at "go"
    refine ⟨XS.sz (by simp), fun t6 ht6 => ?_⟩
    obtain ⟨e6, h6⟩ := XS.newly (o := HO.tup _) ht6
    generalize hGH6 : upd _ t6 _ = H6 at e6 h6 ⊢
    walk_at "go"
    walk_at "go"
    have ek := (e5.trans e6)
    exact q t6 _ (e34.trans ek) (XS.Dp.mkCon (o := true) (l := [A1, E1]) (SqT.of h6) rfl (e6.seqT (SqT.of h5)) (.cons (Dp.same ek _ _ d4) (.cons (Dp.same ek _ _ dI) .nil)))
  · rw [if_neg e] at q
    walk_at "go"
    refine ⟨XS.sz (by simp), fun t5 ht5 => ?_⟩
    obtain ⟨e5, h5⟩ := XS.newly (o := HO.tup _) ht5
    generalize hGH5 : upd _ t5 _ = H5 at e5 h5 ⊢
    walk_at "go"
    refine ⟨XS.sz (by simp), fun t6 ht6 => ?_⟩
    obtain ⟨e6, h6⟩ := XS.newly (o := HO.tup _) ht6
    generalize hGH6 : upd _ t6 _ = H6 at e6 h6 ⊢
    walk_at "go"
    refine ⟨XS.sz (by simp), fun t7 ht7 => ?_⟩
    obtain ⟨e7, h7⟩ := XS.newly (o := HO.tup _) ht7
    generalize hGH7 : upd _ t7 _ = H7 at e7 h7 ⊢
    walk_at "go"
    refine ⟨XS.sz (by simp), fun t8 ht8 => ?_⟩
    obtain ⟨e8, h8⟩ := XS.newly (o := HO.tup _) ht8
    generalize hGH8 : upd _ t8 _ = H8 at e8 h8 ⊢
    walk_at "go"
    refine ⟨XS.sz (by simp), fun t9 ht9 => ?_⟩
    obtain ⟨e9, h9⟩ := XS.newly (o := HO.tup _) ht9
    generalize hGH9 : upd _ t9 _ = H9 at e9 h9 ⊢
    walk_at "go"
    refine ⟨XS.sz (by simp), fun t10 ht10 => ?_⟩
    obtain ⟨e10, h10⟩ := XS.newly (o := HO.tup _) ht10
    generalize hGH10 : upd _ t10 _ = H10 at e10 h10 ⊢
    walk_at "go"
    refine ⟨XS.sz (by simp), fun t11 ht11 => ?_⟩
    obtain ⟨e11, h11⟩ := XS.newly (o := HO.tup _) ht11
    generalize hGH11 : upd _ t11 _ = H11 at e11 h11 ⊢
    walk_at "go"
    walk_at "go"
    have ek := (e5.trans (e6.trans (e7.trans (e8.trans (e9.trans (e10.trans e11))))))
    exact q t11 _ (e34.trans ek) (XS.Dp.mkCon (o := false) (l := [.con true [], .neg (.con false [E1, A1])]) (SqT.of h11) rfl (e11.seqT (SqT.of h10)) (.cons (XS.Dp.mkCon (o := true) (l := []) ((e7.trans (e8.trans (e9.trans (e10.trans e11)))).seqT (SqT.of h6)) rfl ((e6.trans (e7.trans (e8.trans (e9.trans (e10.trans e11))))).seqT (SqT.of h5)) .nil) (.cons (XS.Dp.mkNeg ((e10.trans e11).seqT (SqT.of h9)) (XS.Dp.mkCon (o := false) (l := [E1, A1]) ((e9.trans (e10.trans e11)).seqT (SqT.of h8)) rfl ((e8.trans (e9.trans (e10.trans e11))).seqT (SqT.of h7)) (.cons (Dp.same ek _ _ dI) (.cons (Dp.same ek _ _ d4) .nil)))) .nil)))

abbrev s__law_sum_put : Stmt := topS 30
abbrev N__law_sum_put : List Str := ["_law_one", "_law_name", "_law_other", "_law_by", "_law_names", "_law_parts", "_law_each", "_law_own", "_law_pair"]
abbrev P__law_sum_put : List Str := ["_law_one", "_law_name", "_law_other"]
theorem sc__law_sum_put : FnScope N__law_sum_put P__law_sum_put (defScope s__law_sum_put) := ⟨rfl, rfl, rfl, by decide +kernel, rfl, by decide +kernel, by decide +kernel⟩
theorem d__law_sum_put (F : FunAt K mg "_law_sum_put" s__law_sum_put P__law_sum_put) (Z : Bl mg) : DefAt P w K mg base CX0 1 "_law_sum_put" P__law_sum_put (sp_sum_put P w K) := by
  refine F.ok sc__law_sum_put (fun vs H Q E h => ?_) (fun f cdv A outer s H vs Q E hr h => ?_)
  · obtain ⟨_, _, _, _, _, rfl, _⟩ := h
    rfl
  obtain ⟨v, u, x, s1, o, rfl, h1, ho, so, ok, ndo, q⟩ := h
  have hu := hu_of hr
  obtain ⟨nd1, hl, ss⟩ := ok
  obtain ⟨a, b, us, rfl, a1, a2, a3⟩ := h1.sum
  obtain ⟨c, d, ws, rfl, c1, c2, c3⟩ := ho.sum
  have l1 := a3.len
  have l2 := c3.len
  rw [List.length_map] at l1 l2
  refine ⟨_, (pss_cons (ps_set (i := 3) sc__law_sum_put.nd rfl (Or.inl rfl) (pe_callB (cr_sumK K rfl) (by rfl) Z.sum (by decide +kernel) (pa_cons (pe_lc (own := [("_law_pair", 8)]) (by rfl) sc__law_sum_put.nd (pi_tupK K (pe_ix (ix_tupK K) (pv 0) pe_int (fun _ _ => rfl))) (blkOk_by (own := [("_law_pair", 8)]) (N := N__law_sum_put) (sc := defScope s__law_sum_put) (by decide +kernel)) (fun _ _ _ _ _ => (pg_name (i := 8) sc__law_sum_put.nd rfl (Or.inl rfl))) (fun _ _ _ _ _ => (pts_one (pt_cmpR op_eq (pe_ix (ix_tupK K) (pv 8) pe_int (fun _ _ => rfl)) (pv 1) (nomark _)))) (fun _ _ _ _ _ => (pe_ix (ix_tupK K) (pv 8) pe_int (fun _ _ => rfl)))) pa_nil)))
        (pss_cons (ps_set (i := 4) sc__law_sum_put.nd rfl (Or.inl rfl) (pe_callB (XG.cr_srtS P w rfl) (by rfl) Z.sorted (by decide +kernel) (pa_cons (pe_callTy (XG.cr_setS P w K rfl) (by rfl) Z.set (by decide +kernel) (pa_cons (pe_op op_cat (pe_lc (own := [("_law_pair", 8)]) (by rfl) sc__law_sum_put.nd (pi_tupK K (pe_ix (ix_tupK K) (pv 0) pe_int (fun _ _ => rfl))) (blkOk_by (own := [("_law_pair", 8)]) (N := N__law_sum_put) (sc := defScope s__law_sum_put) (by decide +kernel)) (fun _ _ _ _ _ => (pg_name (i := 8) sc__law_sum_put.nd rfl (Or.inl rfl))) (fun _ _ _ _ _ => pts_nil) (fun _ _ _ _ _ => (pe_ix (ix_tupK K) (pv 8) pe_int (fun _ _ => rfl)))) (pe_lc (own := [("_law_pair", 8)]) (by rfl) sc__law_sum_put.nd (pi_tupK K (pe_ix (ix_tupK K) (pv 2) pe_int (fun _ _ => rfl))) (blkOk_by (own := [("_law_pair", 8)]) (N := N__law_sum_put) (sc := defScope s__law_sum_put) (by decide +kernel)) (fun _ _ _ _ _ => (pg_name (i := 8) sc__law_sum_put.nd rfl (Or.inl rfl))) (fun _ _ _ _ _ => pts_nil) (fun _ _ _ _ _ => (pe_ix (ix_tupK K) (pv 8) pe_int (fun _ _ => rfl))))) pa_nil)) pa_nil)))
        (pss_cons (ps_set (i := 5) sc__law_sum_put.nd rfl (Or.inl rfl) (pe_lst pa_nil))
        (pss_cons (ps_for PassesOwn.never rfl (pi_listK K (pv 4)) (pg_name (i := 6) sc__law_sum_put.nd rfl (Or.inr rfl))
          (pss_cons (ps_set (i := 7) sc__law_sum_put.nd rfl (Or.inl rfl) (pe_callB (cr_sumK K rfl) (by rfl) Z.sum (by decide +kernel) (pa_cons (pe_lc (own := [("_law_pair", 8)]) (by rfl) sc__law_sum_put.nd (pi_tupK K (pe_ix (ix_tupK K) (pv 0) pe_int (fun _ _ => rfl))) (blkOk_by (own := [("_law_pair", 8)]) (N := N__law_sum_put) (sc := defScope s__law_sum_put) (by decide +kernel)) (fun _ _ _ _ _ => (pg_name (i := 8) sc__law_sum_put.nd rfl (Or.inl rfl))) (fun _ _ _ _ _ => (pts_one (PW.pt (pw_and (pt_cmpR op_eq (pe_ix (ix_tupK K) (pv 8) pe_int (fun _ _ => rfl)) (pv 6) (nomark _)) (pw_and1 (pt_cmpR op_ne (pv 6) (pv 1) (nomark _))))))) (fun _ _ _ _ _ => (pe_ix (ix_tupK K) (pv 8) pe_int (fun _ _ => rfl)))) pa_nil)))
        (pss_cons (ps_set (i := 7) sc__law_sum_put.nd rfl (Or.inl rfl) (pe_op op_add (pv 7) (pe_op op_mulW (pv 3) (pe_callB (cr_sumK K rfl) (by rfl) Z.sum (by decide +kernel) (pa_cons (pe_lc (own := [("_law_pair", 8)]) (by rfl) sc__law_sum_put.nd (pi_tupK K (pe_ix (ix_tupK K) (pv 2) pe_int (fun _ _ => rfl))) (blkOk_by (own := [("_law_pair", 8)]) (N := N__law_sum_put) (sc := defScope s__law_sum_put) (by decide +kernel)) (fun _ _ _ _ _ => (pg_name (i := 8) sc__law_sum_put.nd rfl (Or.inl rfl))) (fun _ _ _ _ _ => (pts_one (pt_cmpR op_eq (pe_ix (ix_tupK K) (pv 8) pe_int (fun _ _ => rfl)) (pv 6) (nomark _)))) (fun _ _ _ _ _ => (pe_ix (ix_tupK K) (pv 8) pe_int (fun _ _ => rfl)))) pa_nil)))))
        (pss_one (ps_if (pt_cmpR op_ne (pv 7) pe_int (nomark _))
          (pss_one (ps_expr (pe_bm PySem.F.plainAttrs_list PySem.F.slot_list_append PySem.F.type_list_append mt_append (pv 5) (pa_cons (pe_tup (pa_cons (pv 6) (pa_cons (pv 7) pa_nil))) pa_nil)))) pss_nil)))))
        (pss_one (ps_ret (pe_tup (pa_cons (pe_op op_add (pe_ix (ix_tupK K) (pv 0) pe_int (fun _ _ => rfl)) (pe_op op_mulW (pv 3) (pe_ix (ix_tupK K) (pv 2) pe_int (fun _ _ => rfl)))) (pa_cons (pe_callTy (call_tupK K) (by rfl) Z.tuple (by decide +kernel) (pa_cons (pv 5) pa_nil)) pa_nil))))))))), ?_⟩
  have sts : ∀ (ps : List Pr) (f : Pr → Bool), (ps.filter f).map (fun p => PyData.str p.1) = ((ps.filter f).map (·.1)).map PyData.str := fun ps f => by rw [List.map_map]; rfl
  have its : ∀ (ps : List Pr) (f : Pr → Bool), (ps.filter f).map (fun p => PyData.int p.2) = ((ps.filter f).map (·.2)).map PyData.int := fun ps f => by rw [List.map_map]; rfl
  have all : ∀ ps : List Pr, ps.filter (fun _ => true) = ps := fun ps => List.filter_eq_self.mpr fun _ _ => rfl
  walk_at "go"
  refine XS.x_ixT a1 (XS.atI_get (i := 1) rfl) ?_
  refine XS.x_lcT s1.2 us (fun p => decide (p.1 = x)) (fun p => .int p.2) a2 l1 (by omega) (fun _ => .int _) (fun i p z hi hz H1 Yes No e yes no => ?_) (fun l3 H1 acc _ e1 k1 d1 => ?_)
  · obtain ⟨y, rfl, hy⟩ := (pair_at a3 hi hz).pair
    walk_at "go"
    refine ⟨rfl, ?_⟩
    walk_at "go"
    refine XS.x_ixT (e.seqT hy) (XS.atI_get (i := 0) rfl) ?_
    walk_at "go"
    refine XS.x_d (fun c => ?_) (fun c => ?_)
    · walk_at "go"
      refine XS.x_ixT (e.seqT hy) (XS.atI_get (i := 1) rfl) ?_
      exact yes _ _ (Same.refl _) (by simpa using c) (.int _)
    · exact no _ (Same.refl _) (by simpa using c)
  rw [its] at d1
  rw [d1.ints] at k1
  walk_at "go"
  refine XS.x_sum (SqL.of k1) ?_
  rw [show ((s1.2.filter fun p => decide (p.1 = x)).map (·.2)).sum = shr s1.2 x from rfl]
  walk_at "go"
  refine XS.x_ixT (e1.seqT a1) (XS.atI_get (i := 1) rfl) ?_
  refine XS.x_lcT s1.2 us (fun _ => true) (fun p => .str p.1) (e1.seqT a2) l1 (by omega) (fun _ => .str _) (fun i p z hi hz H2 Yes No e yes no => ?_) (fun l4 H2 acc2 hl4 e2 k2 d2 => ?_)
  · obtain ⟨y, rfl, hy⟩ := (pair_at (DpAll.same e1 _ _ a3) hi hz).pair
    walk_at "go"
    refine ⟨rfl, ?_⟩
    walk_at "go"
    refine XS.x_ixT (e.seqT hy) (XS.atI_get (i := 0) rfl) ?_
    exact yes _ _ (Same.refl _) rfl (.str _)
  rw [all, show s1.2.map (fun p => PyData.str p.1) = (s1.2.map (·.1)).map PyData.str by rw [List.map_map]; rfl] at d2
  rw [d2.strs] at k2
  walk_at "go"
  have e12 := e1.trans e2
  refine XS.x_ixT (e12.seqT c1) (XS.atI_get (i := 1) rfl) ?_
  refine XS.x_lcT o.2 ws (fun _ => true) (fun p => .str p.1) (e12.seqT c2) l2 (by omega) (fun _ => .str _) (fun i p z hi hz H2 Yes No e yes no => ?_) (fun l5 H3 acc3 hl5 e3 k3 d3 => ?_)
  · obtain ⟨y, rfl, hy⟩ := (pair_at (DpAll.same e12 _ _ c3) hi hz).pair
    walk_at "go"
    refine ⟨rfl, ?_⟩
    walk_at "go"
    refine XS.x_ixT (e.seqT hy) (XS.atI_get (i := 0) rfl) ?_
    exact yes _ _ (Same.refl _) rfl (.str _)
  rw [all, show o.2.map (fun p => PyData.str p.1) = (o.2.map (·.1)).map PyData.str by rw [List.map_map]; rfl] at d3
  rw [d3.strs] at k3
  walk_at "go"
  refine ⟨l4, l5, _, _, rfl, rfl, e3 _ _ k2, k3, XS.sz (by rw [List.length_map, List.length_map, List.length_map, List.length_map]; omega), fun l6 hl6 => ?_⟩
  rw [← List.map_append]
  obtain ⟨e6, k6⟩ := XS.newly (o := HO.lst ((s1.2.map (·.1) ++ o.2.map (·.1)).map V.str)) hl6
  generalize hG6 : upd _ l6 _ = H6 at e6 k6 ⊢
  walk_at "go"
  refine ⟨l6, s1.2.map (·.1) ++ o.2.map (·.1), rfl, SqL.of k6, by rw [List.length_append, List.length_map, List.length_map]; omega, fun p8 c8 hp8 hc8 => ?_⟩
  have e8 := XS.same_upd (o := XG.SetSO P w p8 (fun z => decide (z ∈ s1.2.map (·.1) ++ o.2.map (·.1))) c8) hp8
  have k8 : upd H6 p8 (XG.SetSO P w p8 (fun z => decide (z ∈ s1.2.map (·.1) ++ o.2.map (·.1))) c8) p8 = some (XG.SetSO P w p8 (fun z => decide (z ∈ s1.2.map (·.1) ++ o.2.map (·.1))) c8) := upd_same
  generalize hG8 : upd H6 p8 _ = H8 at e8 k8 ⊢
  walk_at "go"
  rw [List.length_append, List.length_map, List.length_map] at hc8
  refine ⟨p8, _, c8, rfl, k8, by omega, fun ys p9 hs9 nd9 mem9 len9 hp9 => ?_⟩
  obtain ⟨e9, k9⟩ := XS.newly (o := HO.lst (ys.map V.str)) hp9
  generalize hG9 : upd _ p9 _ = H9 at e9 k9 ⊢
  walk_at "go"
  refine ⟨XS.sz (by simp), fun l10 hl10 => ?_⟩
  obtain ⟨e10, k10⟩ := XS.newly (o := HO.lst _) hl10
  generalize hGH10 : upd _ l10 _ = H10 at e10 k10 ⊢
  walk_at "go"
  have eA : Same H H10 := e12.trans (e3.trans (e6.trans (e8.trans (e9.trans e10))))
  have rys : Rising ys := rising_of nd9 hs9
  have mys : ∀ z, z ∉ ys → shr (putS s1 x o).2 z = 0 := fun z hz => by
    rw [mem9, decide_eq_true_eq, List.mem_append, not_or] at hz
    rw [shr_put, shr_out hz.1, shr_out hz.2, Int.mul_zero]
    split <;> rfl
  have k9' := e10 _ _ k9
  refine XS.x_forL (SqL.of k9') (fun i σ H' => ∃ (y6 y7 y8 : Option V) (acc : List V), σ = [some (.ref a), some (.str x), some (.ref c), some (.int (shr s1.2 x)), some (.ref p9), some (.ref l10), y6, y7, y8] ∧ Same H9 H' ∧ H' l10 = some (.lst acc) ∧ DpAll K H' acc ((kept (ys.take i) fun z => shr (putS s1 x o).2 z).map prT)) ⟨none, none, none, [], rfl, e10, k10, .nil⟩ (fun i σ H' _ ⟨_, _, _, _, _, e, _⟩ => SqL.of (e _ _ k9)) ?_ ?_
  · rintro i z σ H' hi ⟨y6, y7, y8, acc, rfl, e11, k11, d11⟩
    obtain ⟨y, hy, rfl⟩ := map_at hi
    have eH : Same H H' := e12.trans (e3.trans (e6.trans (e8.trans (e9.trans e11))))
    walk_at "go"
    refine XS.x_ixT (eH.seqT a1) (XS.atI_get (i := 1) rfl) ?_
    refine XS.x_lcT s1.2 us (fun p => decide (p.1 = y) && !decide (y = x)) (fun p => .int p.2) (eH.seqT a2) l1 (by omega) (fun _ => .int _) (fun i p z hi hz H1 Yes No e yes no => ?_) (fun l12 H12 acc12 _ e12x k12 d12 => ?_)
    · obtain ⟨t, rfl, ht⟩ := (pair_at (DpAll.same eH _ _ a3) hi hz).pair
      walk_at "go"
      refine ⟨rfl, ?_⟩
      walk_at "go"
      refine XS.x_ixT (e.seqT ht) (XS.atI_get (i := 0) rfl) ?_
      walk_at "go"
      refine XS.x_d (fun c => ?_) (fun c => ?_)
      · walk_at "go"
        refine XS.x_dn (fun c2 => ?_) (fun c2 => ?_)
        · walk_at "go"
          refine XS.x_ixT (e.seqT ht) (XS.atI_get (i := 1) rfl) ?_
          exact yes _ _ (Same.refl _) (by simp [c, c2]) (.int _)
        · exact no _ (Same.refl _) (by simp [c, c2])
      · exact no _ (Same.refl _) (by simp [c])
    rw [its] at d12
    rw [d12.ints] at k12
    walk_at "go"
    refine XS.x_sum (SqL.of k12) ?_
    have es : ((s1.2.filter fun p => decide (p.1 = y) && !decide (y = x)).map (·.2)).sum = if y = x then 0 else shr s1.2 y := by
      by_cases c : y = x
      · rw [if_pos c, List.filter_eq_nil_iff.mpr fun p _ => by simp [c]]
        rfl
      · rw [if_neg c]
        unfold shr
        congr 2
        exact List.filter_congr fun p _ => by simp [c]
    rw [es]
    walk_at "go"
    refine XS.x_ixT (e12x.seqT (eH.seqT c1)) (XS.atI_get (i := 1) rfl) ?_
    refine XS.x_lcT o.2 ws (fun p => decide (p.1 = y)) (fun p => .int p.2) (e12x.seqT (eH.seqT c2)) l2 (by omega) (fun _ => .int _) (fun i p z hi hz H1 Yes No e yes no => ?_) (fun l13 H13 acc13 _ e13x k13 d13 => ?_)
    · obtain ⟨t, rfl, ht⟩ := (pair_at (DpAll.same (eH.trans e12x) _ _ c3) hi hz).pair
      walk_at "go"
      refine ⟨rfl, ?_⟩
      walk_at "go"
      refine XS.x_ixT (e.seqT ht) (XS.atI_get (i := 0) rfl) ?_
      walk_at "go"
      refine XS.x_d (fun c => ?_) (fun c => ?_)
      · walk_at "go"
        refine XS.x_ixT (e.seqT ht) (XS.atI_get (i := 1) rfl) ?_
        exact yes _ _ (Same.refl _) (by simpa using c) (.int _)
      · exact no _ (Same.refl _) (by simpa using c)
    rw [its] at d13
    rw [d13.ints] at k13
    walk_at "go"
    refine XS.x_sum (SqL.of k13) ?_
    rw [show ((o.2.filter fun p => decide (p.1 = y)).map (·.2)).sum = shr o.2 y from rfl]
    walk_at "go"
    refine XS.x_I (mul_ok (shr_sml nd1 ss x) (shr_sml ndo so y)) ?_
    walk_at "go"
    rw [show (if y = x then 0 else shr s1.2 y) + shr s1.2 x * shr o.2 y = shr (putS s1 x o).2 y from (shr_put s1 x o y).symm]
    have e14 := e12x.trans e13x
    have k14 := e14 _ _ k11
    have ek : kept (ys.take (i + 1)) (fun z => shr (putS s1 x o).2 z) = kept (ys.take i) (fun z => shr (putS s1 x o).2 z) ++ (if shr (putS s1 x o).2 y = 0 then [] else [(y, shr (putS s1 x o).2 y)]) := by
      unfold kept
      rw [XS.take_more hy, List.filter_append, List.map_append]
      by_cases c : shr (putS s1 x o).2 y = 0
      · simp [c]
      · simp [c]
    refine XS.x_dn (fun c => ?_) (fun c => ?_)
    · walk_at "go"
      refine XS.x_tyL' (XS.x_tyL k14) ?_
      walk_at "go"
      refine ⟨XS.sz (by simp), fun t15 ht15 => ?_⟩
      obtain ⟨e15, k15⟩ := XS.newly (o := HO.tup _) ht15
      generalize hGH15 : upd _ t15 _ = H15 at e15 k15 ⊢
      walk_at "go"
      have k16 := e15 _ _ k14
      have kk := keeps_lst (ys := acc ++ [.ref t15]) k16
      have la := d11.len
      have lk : (kept (ys.take i) fun z => shr (putS s1 x o).2 z).length ≤ 64 := by
        unfold kept
        rw [List.length_map]
        refine Nat.le_trans (List.length_filter_le _ _) ?_
        rw [List.length_take]
        omega
      rw [List.length_map] at la
      refine XS.x_app k16 (szl (by omega)) ?_
      refine ⟨_, _, _, acc ++ [.ref t15], rfl, XS.same_mut (e11.trans (e14.trans e15)) hl10, upd_same, ?_⟩
      rw [ek, if_neg c, List.map_append]
      exact (DpAll.keeps kk _ _ (im_pairs _) (DpAll.same (e14.trans e15) _ _ d11)).app (.one (Dp.keeps kk _ _ (im_pair _) (Dp.mkPair (p := (y, shr (putS s1 x o).2 y)) (SqT.of k15))))
    · walk_at "go"
      refine ⟨_, _, _, acc, rfl, e11.trans e14, k14, ?_⟩
      rw [ek, if_pos c, List.append_nil]
      exact DpAll.same e14 _ _ d11
  · rintro σ H' ⟨y6, y7, y8, acc, rfl, e11, k11, d11⟩
    rw [List.length_map, List.take_length, kept_is (putS_norm s1 x o) rys (fun _ => rfl) mys] at d11
    have eH : Same H H' := e12.trans (e3.trans (e6.trans (e8.trans (e9.trans e11))))
    walk_at "go"
    refine XS.x_ixT (eH.seqT a1) (XS.atI_get (i := 0) rfl) ?_
    walk_at "go"
    refine XS.x_ixT (eH.seqT c1) (XS.atI_get (i := 0) rfl) ?_
    walk_at "go"
    refine XS.x_I (mul_ok (shr_sml nd1 ss x) so.1) ?_
    walk_at "go"
    refine XS.x_tupL (SqL.of k11) fun t6 H6 ht6 e6 k6 => ?_
    walk_at "go"
    refine ⟨XS.sz (by simp), fun t7 ht7 => ?_⟩
    obtain ⟨e7, k7⟩ := XS.newly (o := HO.tup _) ht7
    exact q t7 _ (eH.trans (e6.trans e7)) (Dp.mkSum (s := putS s1 x o) (SqT.of k7) (e7.seqT (SqT.of k6)) (DpAll.same (e6.trans e7) _ _ d11))

abbrev s__law_put : Stmt := topS 31
abbrev N__law_put : List Str := ["_law_statement", "_law_name", "_law_other", "_law_kind", "_law_part"]
abbrev P__law_put : List Str := ["_law_statement", "_law_name", "_law_other"]
theorem sc__law_put : FnScope N__law_put P__law_put (defScope s__law_put) := ⟨rfl, rfl, rfl, by decide +kernel, rfl, by decide +kernel, by decide +kernel⟩
theorem lput_step {n : Nat} (F : FunAt K mg "_law_put" s__law_put P__law_put) (Z : Bl mg) (D__law_sum_put : DefAt P w K mg base CX0 1 "_law_sum_put" P__law_sum_put (sp_sum_put P w K))
    (D__law_put : DefAt P w K mg base CX0 (n + 1) "_law_put" P__law_put (sp_lput n K)) : DefAt P w K mg base CX0 (n + 2) "_law_put" P__law_put (sp_lput (n + 1) K) := by
  refine F.ok sc__law_put (fun vs H Q E h => ?_) (fun f cdv A outer s H vs Q E hr h => ?_)
  · obtain ⟨_, _, _, _, _, rfl, _⟩ := h
    rfl
  obtain ⟨v, u, x, a, o, rfl, h1, ho, so, ndo, pl, ev, hn, q⟩ := h
  refine ⟨_, (pss_cons (ps_set (i := 3) sc__law_put.nd rfl (Or.inl rfl) (pe_ix (ix_tupK K) (pv 0) pe_int (fun _ _ => rfl)))
        (pss_cons (ps_if (pt_cmpR op_eq (pv 3) pe_str (nomark _))
          (pss_one (ps_ret (pe_tup (pa_cons pe_str (pa_cons (pe_callD D__law_put (hr.mono (by first | exact Nat.le_refl _ | omega | decide)) rfl pass0 (pa_cons (pe_ix (ix_tupK K) (pv 0) pe_int (fun _ _ => rfl)) (pa_cons (pv 1) (pa_cons (pv 2) pa_nil)))) pa_nil))))) pss_nil)
        (pss_cons (ps_if (PW.pt (pw_or (pt_cmpR op_eq (pv 3) pe_str (nomark _)) (pw_or1 (pt_cmpR op_eq (pv 3) pe_str (nomark _)))))
          (pss_one (ps_ret (pe_tup (pa_cons (pv 3) (pa_cons (pe_callTy (call_tupK K) (by rfl) Z.tuple (by decide +kernel) (pa_cons (pe_lc (own := [("_law_part", 4)]) (by rfl) sc__law_put.nd (pi_tupK K (pe_ix (ix_tupK K) (pv 0) pe_int (fun _ _ => rfl))) (blkOk_by (own := [("_law_part", 4)]) (N := N__law_put) (sc := defScope s__law_put) (by decide +kernel)) (fun _ _ _ _ _ => (pg_name (i := 4) sc__law_put.nd rfl (Or.inl rfl))) (fun _ _ _ _ _ => pts_nil) (fun _ _ _ _ _ => (pe_callD D__law_put (hr.mono (by first | exact Nat.le_refl _ | omega | decide)) rfl pass0 (pa_cons (pv 4) (pa_cons (pv 1) (pa_cons (pv 2) pa_nil)))))) pa_nil)) pa_nil))))) pss_nil)
        (pss_one (ps_ret (pe_op (op_catK K) (pe_slice (sl_tupK K) (pv 0) po_none (po_some (pe_un un_neg pe_int))) (pe_tup (pa_cons (pe_callD D__law_sum_put (hr.mono (by first | exact Nat.le_refl _ | omega | decide)) rfl pass0 (pa_cons (pe_ix (ix_tupK K) (pv 0) (pe_un un_neg pe_int) (fun _ _ => rfl)) (pa_cons (pv 1) (pa_cons (pv 2) pa_nil)))) pa_nil)))))))), ?_⟩
  obtain ⟨p, us, rfl, hp, ds, eds, hds⟩ := Dp.stm h1
  walk_at "go"
  refine XS.x_ixT hp (XS.atI_get (i := 0) rfl) ?_
  walk_at "go"
  rw [is_not]
  by_cases e : isEnd a = true
  · refine XS.x_no (by cases a <;> first | rfl | cases e) ?_
    walk_at "go"
    rw [isAnd_eq]
    refine XS.x_no (by cases a <;> first | rfl | cases e) ?_
    walk_at "go"
    rw [isOr_eq]
    refine XS.x_no (by cases a <;> first | rfl | cases e) ?_
    walk_at "go"
    obtain ⟨p', hd, u2, ep, hp', hl, hne, hsum, mk⟩ := end_tup e h1
    cases ep
    have ok : PutOk o (sumOf a) := by
      cases ev with
      | above h | nought h | goes h _ => exact h
      | neg _ | con _ _ | bnd _ => cases e
    refine XS.x_cutLast hp' fun t1 H1 e1 k1 => ?_
    walk_at "go"
    refine XS.x_ixT (e1.seqT hp') XS.atI_last ?_
    walk_at "go"
    refine ⟨u2, u, x, sumOf a, o, rfl, Dp.same e1 _ _ hsum, Dp.same e1 _ _ ho, so, ok, ndo, fun t2 H2 e2 d2 => ?_⟩
    walk_at "go"
    refine ⟨XS.sz (by simp), fun t3 ht3 => ?_⟩
    obtain ⟨e3, k3⟩ := XS.newly (o := HO.tup _) ht3
    generalize hGH3 : upd _ t3 _ = H3 at e3 k3 ⊢
    walk_at "go"
    refine XS.x_catA (e3.seqT (e2.seqT (SqT.of k1))) (SqT.of k3) hne (by simp) (by simp; omega) fun t4 H4 e4 k4 => ?_
    refine q t4 _ (e1.trans (e2.trans (e3.trans e4))) ?_
    rw [mapS_end e]
    exact mk _ _ _ _ (SqT.of k4) (Dp.same (e3.trans e4) _ _ d2)
  · cases a with
    | above | nought | goes => exact absurd rfl e
    | bnd o x c => cases pl
    | neg c =>
      refine XS.x_yes rfl ?_
      walk_at "go"
      cases eds
      cases hds with
      | cons g1 g2 =>
      refine XS.x_ixT hp (XS.atI_get (i := 1) rfl) ?_
      walk_at "go"
      refine ⟨_, u, x, c, o, rfl, g1, ho, so, ndo, pl, ev.parts (by simp [parts]), Nat.le_of_succ_le_succ hn, fun t1 H1 e1 d1 => ?_⟩
      walk_at "go"
      refine ⟨XS.sz (by simp), fun t2 ht2 => ?_⟩
      obtain ⟨e2, k2⟩ := XS.newly (o := HO.tup _) ht2
      exact q t2 _ (e1.trans e2) (XS.Dp.mkNeg (SqT.of k2) (Dp.same e2 _ _ d1))
    | con b l =>
      refine XS.x_no rfl ?_
      walk_at "go"
      rw [isAnd_eq]
      cases eds
      cases hds with
      | cons g1 g2 =>
      rw [toDs_map] at g1
      cases g1 with
      | tup hs ha =>
      have l1 := ha.len
      rw [List.length_map] at l1
      have l64 : l.length ≤ 64 := ev.parts_len
      refine XS.x_2 (fun e2 => ?_) (fun e2 => ?_)
      case' refine_2 =>
        walk_at "go"
        rw [isOr_eq]
        refine XS.x_yes (by cases b with | true => cases e2 | false => rfl) ?_
      all_goals
        walk_at "go"
        refine XS.x_ixT hp (XS.atI_get (i := 1) rfl) ?_
        refine XS.x_lcT l _ (fun _ => true) (fun c => toD (mapS (fun s => putS s x o) c)) hs l1 (by omega) (fun _ => im_stm _) (fun i c z hi hz H1 Yes No e yes no => ?_) (fun l3 H1 acc _ e1 k1 d1 => ?_)
        · have du : Dp K H1 z (toD c) := by
            obtain ⟨dd, hdd, du⟩ := (DpAll.same e _ _ ha).getV hz
            rw [List.getElem?_map, hi] at hdd
            cases hdd
            exact du
          have hmem := List.mem_of_getElem? hi
          walk_at "go"
          refine ⟨rfl, ?_⟩
          walk_at "go"
          refine ⟨z, u, x, c, o, rfl, du, Dp.same e _ _ ho, so, ndo, plain_part pl hmem, ev.parts hmem, by have := dep_in hmem; exact Nat.le_of_succ_le_succ (Nat.le_trans (Nat.succ_le_succ this) hn), fun t5 H5 e5 d5 => ?_⟩
          exact yes _ _ e5 rfl d5
        · rw [List.filter_eq_self.mpr (fun _ _ => rfl)] at d1
          walk_at "go"
          refine XS.x_tupL (SqL.of k1) fun t6 H6 ht6 e6 k6 => ?_
          walk_at "go"
          refine ⟨XS.sz (by simp), fun t7 ht7 => ?_⟩
          obtain ⟨e7, k7⟩ := XS.newly (o := HO.tup _) ht7
          refine q t7 _ (e1.trans (e6.trans e7)) ?_
          rw [mapS_con]
          refine XS.Dp.mkCon (SqT.of k7) rfl (e7.seqT (SqT.of k6)) ?_
          rw [List.map_map]
          exact DpAll.same (e6.trans e7) _ _ d1
theorem lput_all (F : FunAt K mg "_law_put" s__law_put P__law_put) (Z : Bl mg) (D : DefAt P w K mg base CX0 1 "_law_sum_put" P__law_sum_put (sp_sum_put P w K)) : ∀ n, DefAt P w K mg base CX0 (n + 1) "_law_put" P__law_put (sp_lput n K)
  | 0 => F.never fun vs H Q E h => by
    obtain ⟨_, _, _, a, _, _, _, _, _, _, _, _, hn, _⟩ := h
    have := dep_pos a
    omega
  | n + 1 => lput_step F Z D (lput_all F Z D n)
abbrev s__law_refused : Stmt := topS 32
abbrev N__law_refused : List Str := ["_law_statement", "_law_name", "_law_other", "_law_e"]
abbrev P__law_refused : List Str := ["_law_statement", "_law_name", "_law_other"]
theorem sc__law_refused : FnScope N__law_refused P__law_refused (defScope s__law_refused) := ⟨rfl, rfl, rfl, by decide +kernel, rfl, by decide +kernel, by decide +kernel⟩
theorem d__law_refused5 {eS eV eP eN : Addr} (Y : Er K mg eS eV eP eN) (F : FunAt K mg "_law_refused" s__law_refused P__law_refused) (Z : Bl mg) (D_put : DefAt P w K mg base (L2.CX P w) 64 "put" P_put (sp_put K eP))
    (D__law_word_of : DefP P w K mg base 1 "_law_word_of" P__law_word_of (sp_word_of eV eP eN)) : DefAt P w K mg base CX0 65 "_law_refused" P__law_refused (sp_refused5 K) := by
  refine F.ok sc__law_refused (fun vs H Q E h => ?_) (fun f cdv A outer s H vs Q E hr h => ?_)
  · obtain ⟨_, _, _, _, _, rfl, _⟩ := h
    rfl
  obtain ⟨v, u, x, a, o, rfl, h1, ho, so, np, ev, hn, q⟩ := h
  refine ⟨_, (pss_cons (ps_try_as (i := 3) rfl rfl sc__law_refused.nd rfl rfl ⟨rfl, by decide, .inl Y.g_SomeError⟩ takes0 (fun W pn xe tk _ => (pss_one (ps_expr (pe_callX D_put (hr.mono (by first | exact Nat.le_refl _ | omega | decide)) rfl (fun σ => passAt tk σ) (pa_cons (pv 0) (pa_cons (pv 1) (pa_cons (pv 2) pa_nil)))))))
          (fun a oe cls d pn hz hf => (pss_one (ps_ret (pe_callP D__law_word_of List.mem_cons_self hz hf (roomH_mark hr (by first | exact Nat.le_refl _ | omega | decide)) rfl (pa_cons (pv 3) pa_nil))))))
        (pss_one (ps_ret pe_str))), ?_⟩
  walk_at "go"
  refine ⟨v, u, x, a, o, rfl, h1, ho, so, ev, hn, fun hp => (by rw [np] at hp; cases hp), fun _ H1 e1 => ?_⟩
  refine ⟨true, Y.m_P, fun _ b hb => ?_, fun q => nomatch q⟩
  refine XS.x_ret ?_
  walk_at "go"
  exact ⟨rfl, .plain, rfl, fun H' e2 => q H' (e1.trans e2)⟩

abbrev s_law : Stmt := topS 33
abbrev N_law : List Str := ["_law_script", "_law_names", "_law_count", "_law_most", "_law_statement", "_law_name", "_law_some_of", "_law_other", "_law_each"]
abbrev P_law : List Str := ["_law_script"]
theorem sc_law : FnScope N_law P_law (defScope s_law) := ⟨rfl, rfl, rfl, by decide +kernel, rfl, by decide +kernel, by decide +kernel⟩
theorem d_law {eS eV eP eN : Addr} (Y : Er K mg eS eV eP eN) {fl : Addr} {fdl : FuncData} (F : Fun K "law" "law" s_law fl fdl) (Z : Bl mg) (D__law_cell_at : DefAt P w K mg base CX0 1 "_law_cell_at" P__law_cell_at (sp_cell_at K)) (D__law_names_by : DefAt P w K mg base CX0 1 "_law_names_by" P__law_names_by sp_names_by)
    (D__law_plain_by : DefAt P w K mg base CX0 3 "_law_plain_by" P__law_plain_by (sp_plain_by K)) (D__law_bound_by : DefAt P w K mg base CX0 1 "_law_bound_by" P__law_bound_by (sp_bound_by K)) (D__law_sum_by : DefAt P w K mg base CX0 1 "_law_sum_by" P__law_sum_by (sp_sum_by K))
    (D_put : DefAt P w K mg base (L2.CX P w) 64 "put" P_put (sp_put K eP)) (D__law_put : DefAt P w K mg base CX0 61 "_law_put" P__law_put (sp_lput 60 K)) (D__law_refused : DefAt P w K mg base CX0 65 "_law_refused" P__law_refused (sp_refused5 K))
    (D__law_alike : DefAt P w K mg base CX0 61 "_law_alike" P__law_alike (sp_alike 60 K)) : FnOk P w K mg base CX0 66 fl fdl P_law (sp_law K) := by
  refine F.ok sc_law (fun vs H Q E h => ?_) (fun cdv A outer s H vs Q E hr h => ?_)
  · obtain ⟨_, _, rfl, _⟩ := h
    rfl
  obtain ⟨a, ns, rfl, hS, h63, q⟩ := h
  have hu := hu_of hr
  refine ⟨_, (pss_cons (ps_set (i := 1) sc_law.nd rfl (Or.inl rfl) (pe_callD D__law_names_by (hr.mono (by first | exact Nat.le_refl _ | omega | decide)) rfl pass0 (pa_cons (pe_callD D__law_cell_at (hr.mono (by first | exact Nat.le_refl _ | omega | decide)) rfl pass0 (pa_cons (pv 0) (pa_cons pe_int pa_nil))) pa_nil)))
        (pss_cons (ps_set (i := 2) sc_law.nd rfl (Or.inl rfl) (pe_op op_add pe_int (pe_op op_mod (pe_callD D__law_cell_at (hr.mono (by first | exact Nat.le_refl _ | omega | decide)) rfl pass0 (pa_cons (pv 0) (pa_cons pe_int pa_nil))) pe_int)))
        (pss_cons (ps_set (i := 3) sc_law.nd rfl (Or.inl rfl) (pe_ix (ix_listK K) (pe_lst (pa_cons pe_int (pa_cons (pe_op op_pow pe_int pe_int) pa_nil))) (pe_op op_mod (pe_op op_fdiv (pe_callD D__law_cell_at (hr.mono (by first | exact Nat.le_refl _ | omega | decide)) rfl pass0 (pa_cons (pv 0) (pa_cons pe_int pa_nil))) pe_int) pe_int) (fun _ _ => rfl)))
        (pss_cons (ps_set (i := 4) sc_law.nd rfl (Or.inl rfl) (pe_callD D__law_plain_by (hr.mono (by first | exact Nat.le_refl _ | omega | decide)) rfl pass0 (pa_cons (pv 0) (pa_cons pe_int (pa_cons (pv 2) (pa_cons (pe_slice (sl_listK K) (pv 1) po_none (po_some pe_int)) (pa_cons pe_int (pa_cons (pv 3) pa_nil))))))))
        (pss_cons (ps_set (i := 5) sc_law.nd rfl (Or.inr rfl) (pe_ix (ix_listK K) (pv 1) (pe_op op_mod (pe_callD D__law_cell_at (hr.mono (by first | exact Nat.le_refl _ | omega | decide)) rfl pass0 (pa_cons (pv 0) (pa_cons pe_int pa_nil))) pe_int) (fun _ _ => rfl)))
        (pss_cons (ps_setLc (i := 6) (own := [("_law_each", 8)]) (by rfl) sc_law.nd rfl rfl (sw_true rfl rfl rfl (by decide +kernel)) (pi_listK K (pv 1)) (blkOk_by (own := [("_law_each", 8)]) (N := N_law) (sc := defScope s_law) (by decide +kernel)) (fun _ _ _ _ _ => (pg_name (i := 8) sc_law.nd rfl (Or.inl rfl))) (fun _ _ _ _ _ => (pts_one (PW.pt (pw_or (pt_cmpR op_ne (pv 8) (pv 5) (nomark _)) (pw_or1 (pt_cmpR op_eq (pe_op op_mod (pe_callD D__law_cell_at (hr.mono (by first | exact Nat.le_refl _ | omega | decide)) rfl pass0 (pa_cons (pv 0) (pa_cons pe_int pa_nil))) pe_int) pe_int (nomark _))))))) (fun _ _ _ _ _ => (pv 8)))
        (pss_cons (ps_set (i := 7) sc_law.nd rfl (Or.inl rfl) (pe_callD D__law_sum_by (hr.mono (by first | exact Nat.le_refl _ | omega | decide)) rfl pass0 (pa_cons (pe_op op_fdiv (pe_callD D__law_cell_at (hr.mono (by first | exact Nat.le_refl _ | omega | decide)) rfl pass0 (pa_cons (pv 0) (pa_cons pe_int pa_nil))) pe_int) (pa_cons (pv 6) (pa_cons pe_int pa_nil)))))
        (pss_cons (ps_if (pt_cmpR op_eq (pe_op op_mod (pe_callD D__law_cell_at (hr.mono (by first | exact Nat.le_refl _ | omega | decide)) rfl pass0 (pa_cons (pv 0) (pa_cons pe_int pa_nil))) pe_int) pe_int (nomark _))
          (pss_one (ps_ret (pe_cmpR op_eq (pe_callD D__law_refused (hr.mono (by first | exact Nat.le_refl _ | omega | decide)) rfl pass0 (pa_cons (pe_callD D__law_bound_by (hr.mono (by first | exact Nat.le_refl _ | omega | decide)) rfl pass0 (pa_cons (pe_callD D__law_cell_at (hr.mono (by first | exact Nat.le_refl _ | omega | decide)) rfl pass0 (pa_cons (pv 0) (pa_cons pe_int pa_nil))) (pa_cons (pv 4) (pa_cons (pv 1) pa_nil)))) (pa_cons (pv 5) (pa_cons (pv 7) pa_nil)))) pe_str (nomark _)))) pss_nil)
        (pss_cons (ps_if (pt_not (pt_val (pe_callD D__law_alike (hr.mono (by first | exact Nat.le_refl _ | omega | decide)) rfl pass0 (pa_cons (pe_callD D_put (hr.mono (by first | exact Nat.le_refl _ | omega | decide)) rfl passL (pa_cons (pv 4) (pa_cons (pv 5) (pa_cons (pv 7) pa_nil)))) (pa_cons (pe_callD D__law_put (hr.mono (by first | exact Nat.le_refl _ | omega | decide)) rfl pass0 (pa_cons (pv 4) (pa_cons (pv 5) (pa_cons (pv 7) pa_nil)))) pa_nil)))))
          (pss_one (ps_ret pe_bl)) pss_nil)
        (pss_one (ps_ret (pe_callD D__law_alike (hr.mono (by first | exact Nat.le_refl _ | omega | decide)) rfl pass0 (pa_cons (pv 4) (pa_cons (pe_callD D__law_plain_by (hr.mono (by first | exact Nat.le_refl _ | omega | decide)) rfl pass0 (pa_cons (pv 0) (pa_cons pe_int (pa_cons (pv 2) (pa_cons (pe_slice (sl_listK K) (pv 1) po_none (po_some pe_int)) (pa_cons pe_int (pa_cons (pv 3) pa_nil))))))) pa_nil)))))))))))))), ?_⟩
  walk_at "go"
  refine ⟨a, ns, 0, rfl, by decide, hS, ?_⟩
  walk_at "go"
  refine ⟨_, rfl, fun nl H1 hnl e1 h1 => ?_⟩
  walk_at "go"
  have hLen : (namesBy (cell ns 0)).length = 4 := namesBy_len _
  have hNd : (namesBy (cell ns 0)).Nodup := namesBy_nd _
  have hAt : ∀ n : Int, 0 ≤ n → n < 4 → ∃ x, atI ((namesBy (cell ns 0)).map V.str) n = some (.str x) ∧ x ∈ namesBy (cell ns 0) := fun n h1 h2 => names_at h1 h2
  generalize namesBy (cell ns 0) = nm at h1 hLen hNd hAt ⊢
  refine ⟨a, ns, 1, rfl, by decide, e1.seq hS, ?_⟩
  walk_at "go"
  refine ⟨XS.sz (by simp), fun l2 hl2 => ?_⟩
  obtain ⟨e2, h2⟩ := XS.newly (o := HO.lst _) hl2
  generalize hGH2 : upd _ l2 _ = H2 at e2 h2 ⊢
  walk_at "go"
  refine ⟨a, ns, 1, rfl, by decide, (e1.trans e2).seq hS, ?_⟩
  walk_at "go"
  have hb0 := Int.emod_nonneg (cell ns 1 / 6) (by decide : (2 : Int) ≠ 0)
  have hb1 := Int.emod_lt_of_pos (cell ns 1 / 6) (by decide : (0 : Int) < 2)
  obtain ⟨most, hmo, hm0⟩ : ∃ most : Int, atI [V.int 6, V.int (10 ^ Int.toNat 12)] (cell ns 1 / 6 % 2) = some (.int most) ∧ 0 < most := by
    rcases (by omega : cell ns 1 / 6 % 2 = 0 ∨ cell ns 1 / 6 % 2 = 1) with e | e <;> rw [e] <;> exact ⟨_, rfl, by decide⟩
  refine XS.x_ixL (SqL.of h2) hmo ?_
  walk_at "go"
  have n2 : H2 nl = some (.lst (nm.map V.str)) := e2 _ _ h1
  refine ⟨nl, nm.map V.str, rfl, SqL.of n2, fun p3 hp3 => ?_⟩
  rw [cut_take3, ← List.map_take]
  obtain ⟨e3, h3⟩ := XS.newly (o := HO.lst _) hp3
  generalize hH3 : upd _ p3 _ = H3 at e3 h3 ⊢
  walk_at "go"
  have hNd3 : (nm.take 3).Nodup := hNd.sublist (List.take_sublist 3 nm)
  have hL3 : (nm.take 3).length ≤ 3 := by rw [List.length_take]; omega
  have c0 := Int.emod_nonneg (cell ns 1) (by decide : (6 : Int) ≠ 0)
  have c1 := Int.emod_lt_of_pos (cell ns 1) (by decide : (0 : Int) < 6)
  have e13 := e1.trans (e2.trans e3)
  refine ⟨a, ns, 6, 1 + cell ns 1 % 6, 3, most, p3, nm.take 3, rfl, e13.seq hS, by decide, by decide, by omega, by omega, SqL.of h3, hNd3, by omega, by decide, by decide, hm0, fun t4 H4 e4 d4 => ?_⟩
  walk_at "go"
  have pS : ∀ c nm', nm' = nm.take 3 ∨ nm' = [] → SmlS (sumBy c nm' 3) ∧ ((sumBy c nm' 3).2.map (·.1)).Nodup ∧ (sumBy c nm' 3).2.length ≤ 3 := fun c nm' h => by
    refine ⟨sumBy_sml (by decide) (by decide), (sumBy_norm (by decide)).rise.nodup, Nat.le_trans (sumBy_len (by decide)) ?_⟩
    rcases h with rfl | rfl
    · exact hL3
    · simp
  have G0 := plainBy_good (p := fun s => SmlS s ∧ (s.2.map (·.1)).Nodup ∧ s.2.length ≤ 3) (nm := nm.take 3) (ns := ns) (first := 6) (count := 1 + cell ns 1 % 6) (wd := 3) hm0 pS (by omega)
  generalize hS0 : plainBy ns 6 (1 + cell ns 1 % 6) (nm.take 3) 3 most = S0 at d4 G0
  have n4 : H4 nl = some (.lst (nm.map V.str)) := e4 _ _ (e3 _ _ n2)
  have hS4 := (e13.trans e4).seq hS
  refine ⟨a, ns, 2, rfl, by decide, hS4, ?_⟩
  walk_at "go"
  obtain ⟨x, hx, hxm⟩ := hAt (cell ns 2 % 4) (Int.emod_nonneg _ (by decide)) (Int.emod_lt_of_pos _ (by decide))
  refine XS.x_ixL (SqL.of n4) hx ?_
  walk_at "go"
  refine XS.x_lcL nm V.str (fun z => !decide (z = x) || decide (cell ns 3 % 3 = 1)) (fun z => .str z) (SqL.of n4) (by omega) (fun _ => .str _) (fun z hz H5 Yes No e5 yes no => ?_) (fun l5 H5 acc hl5 e5 k5 d5 => ?_)
  · walk_at "go"
    refine ⟨rfl, ?_⟩
    walk_at "go"
    refine XS.x_dn (fun c => ?_) (fun c => ?_)
    · walk_at "go"
      exact yes _ _ (Same.refl _) (by simp [c]) (.str _)
    · walk_at "go"
      refine ⟨a, ns, 3, rfl, by decide, e5.seq hS4, ?_⟩
      walk_at "go"
      refine XS.x_d (fun c2 => ?_) (fun c2 => ?_)
      · walk_at "go"
        exact yes _ _ (Same.refl _) (by simp [c2]) (.str _)
      · exact no _ (Same.refl _) (by simp [c, c2])
  rw [d5.strs] at k5
  have hNd5 : (nm.filter fun z => !decide (z = x) || decide (cell ns 3 % 3 = 1)).Nodup := hNd.sublist List.filter_sublist
  have hL5 : (nm.filter fun z => !decide (z = x) || decide (cell ns 3 % 3 = 1)).length ≤ 4 := by rw [← hLen]; exact List.length_filter_le _ _
  generalize (nm.filter fun z => !decide (z = x) || decide (cell ns 3 % 3 = 1)) = so at k5 hNd5 hL5
  walk_at "go"
  refine ⟨a, ns, 3, rfl, by decide, e5.seq hS4, ?_⟩
  walk_at "go"
  refine ⟨cell ns 3 / 3, 3, l5, so, rfl, SqL.of k5, hNd5, by omega, by decide, by decide, fun t6 H6 e6 d6 => ?_⟩
  have so6 : SmlS (sumBy (cell ns 3 / 3) so 3) := sumBy_sml (by decide) (by decide)
  have nd6 : ((sumBy (cell ns 3 / 3) so 3).2.map (·.1)).Nodup := (sumBy_norm (by decide)).rise.nodup
  have lo6 : (sumBy (cell ns 3 / 3) so 3).2.length ≤ 4 := Nat.le_trans (sumBy_len (by decide)) hL5
  generalize sumBy (cell ns 3 / 3) so 3 = o at d6 so6 nd6 lo6
  walk_at "go"
  have e46 := e5.trans e6
  have hS6 := e46.seq hS4
  have d46 := Dp.same e46 _ _ d4
  have n6 := e46 _ _ n4
  have evP : Ev (PutOk o) S0 := G0.ev.mono fun s h => ⟨h.2.1, by have := h.2.2; omega, h.1⟩
  refine ⟨a, ns, 4, rfl, by decide, hS6, ?_⟩
  walk_at "go"
  refine XS.x_d (fun c => ?_) (fun c => ?_)
  · walk_at "go"
    refine ⟨a, ns, 5, rfl, by decide, hS6, ?_⟩
    walk_at "go"
    refine ⟨cell ns 5, _, nl, S0, nm, rfl, d46, SqL.of n6, hLen, fun t7 H7 e7 d7 => ?_⟩
    obtain ⟨g1, g2, g3⟩ := boundBy_is (c := cell ns 5) (names := nm) evP G0.dp
    walk_at "go"
    refine ⟨_, _, x, _, o, rfl, d7, Dp.same e7 _ _ d6, so6, g2, g1, by omega, fun H8 e8 => ?_⟩
    walk_at "go"
    rw [decide_eq_true rfl]
    exact q _
  · walk_at "go"
    refine ⟨_, _, x, S0, o, rfl, d46, d6, so6, evP, Nat.le_trans G0.dp (by decide), fun _ t7 H7 e7 d7 => ?_, fun np => by rw [G0.pl] at np; cases np⟩
    walk_at "go"
    refine ⟨_, _, x, S0, o, rfl, Dp.same e7 _ _ d46, Dp.same e7 _ _ d6, so6, nd6, G0.pl, evP, Nat.le_trans G0.dp (by decide), fun t8 H8 e8 d8 => ?_⟩
    walk_at "go"
    have evM : Ev (fun s => s.2.length ≤ 1000) (mapS (fun s => putS s x o) S0) := evP.map fun s h => by
      have l1 := nrm_len (((woS s x).2) ++ (timS (shr s.2 x) o).2)
      have l2 := nrm_len (s.2.filter fun p => decide (p.1 ≠ x))
      have l3 := nrm_len (o.2.map fun p => (p.1, shr s.2 x * p.2))
      have l4 := List.length_filter_le (fun p : Pr => decide (p.1 ≠ x)) s.2
      rw [List.length_append] at l1
      rw [List.length_map] at l3
      have := h.2.1
      show (nrm ((woS s x).2 ++ (timS (shr s.2 x) o).2)).length ≤ 1000
      have e1 : (woS s x).2 = nrm (s.2.filter fun p => decide (p.1 ≠ x)) := rfl
      have e2 : (timS (shr s.2 x) o).2 = nrm (o.2.map fun p => (p.1, shr s.2 x * p.2)) := rfl
      rw [e1, e2] at l1 ⊢
      omega
    have dpM : dep (mapS (fun s => putS s x o) S0) ≤ 16 := by rw [dep_mapS _ _ S0 (Nat.le_refl _)]; exact G0.dp
    refine ⟨_, _, _, 59, rfl, rfl, Dp.same e8 _ _ d7, d8, (al_toD (fun _ h => h) evM).up (by omega), ?_⟩
    walk_at "go"
    have e78 := e7.trans e8
    have n8 := e78 _ _ n6
    refine ⟨nl, nm.map V.str, rfl, SqL.of n8, fun p9 hp9 => ?_⟩
    rw [cut_take3, ← List.map_take]
    obtain ⟨e9, h9⟩ := XS.newly (o := HO.lst _) hp9
    generalize hH9 : upd _ p9 _ = H9 at e9 h9 ⊢
    walk_at "go"
    refine ⟨a, ns, 6, 1 + cell ns 1 % 6, 3, most, p9, nm.take 3, rfl, (e78.trans e9).seq hS6, by decide, by decide, by omega, by omega, SqL.of h9, hNd3, by omega, by decide, by decide, hm0, fun t10 H10 e10 d10 => ?_⟩
    walk_at "go"
    rw [hS0] at d10
    have evL : Ev (fun s => s.2.length ≤ 1000) S0 := G0.ev.mono fun s h => by have := h.2.2; omega
    exact ⟨_, _, _, 59, rfl, rfl, Dp.same (e78.trans (e9.trans e10)) _ _ d46, d10, (al_toD (fun _ h => h) evL).up (by have := G0.dp; omega), q _⟩
end

theorem all_mk {l : PySem.W.OpenLaw} {w : World} {K : PySem.W.Frag} {h : Heap} {mg : Str → Option Value} {fa f1 f2 f3 f4 f5 f6 f7 f8 f9 f10 f11 f12 f13 f14 f15 f16 f17 f18 f19 f20 f21 f22 f23 f24 eS eV eP eN oS bN : Addr} (X : K.In h) (G : h.Ns mainGlobals mg) (hfa : mg "law" = some (.ref fa))
    {od1 an1 od2 an2 od3 an3 od4 an4 od5 an5 od6 an6 od7 an7 od8 an8 od9 an9 od10 an10 od11 an11 od12 an12 od13 an13 od14 an14 od15 an15 od16 an16 od17 an17 od18 an18 od19 an19 od20 an20 od21 an21 od22 an22 od23 an23 od24 an24 : Option Addr} {sl1 sl2 sl3 sl4 sl5 sl6 sl7 sl8 sl9 sl10 sl11 sl12 sl13 sl14 sl15 sl16 sl17 sl18 sl19 sl20 sl21 sl22 sl23 sl24 : Array (Option Value)} {oc1 kV1 dc1 pm1 cd1 ct1 oc2 kV2 dc2 pm2 cd2 ct2 oc3 kV3 dc3 pm3 cd3 ct3 oc4 kV4 dc4 pm4 cd4 ct4 oc5 kV5 dc5 pm5 cd5 ct5 oc6 kV6 dc6 pm6 cd6 ct6 oc7 kV7 dc7 pm7 cd7 ct7 oc8 kV8 dc8 pm8 cd8 ct8 oc9 kV9 dc9 pm9 cd9 ct9 oc10 kV10 dc10 pm10 cd10 ct10 oc11 kV11 dc11 pm11 cd11 ct11 oc12 kV12 dc12 pm12 cd12 ct12 oc13 kV13 dc13 pm13 cd13 ct13 oc14 kV14 dc14 pm14 cd14 ct14 oc15 kV15 dc15 pm15 cd15 ct15 oc16 kV16 dc16 pm16 cd16 ct16 oc17 kV17 dc17 pm17 cd17 ct17 oc18 kV18 dc18 pm18 cd18 ct18 oc19 kV19 dc19 pm19 cd19 ct19 oc20 kV20 dc20 pm20 cd20 ct20 oc21 kV21 dc21 pm21 cd21 ct21 oc22 kV22 dc22 pm22 cd22 ct22 oc23 kV23 dc23 pm23 cd23 ct23 oc24 kV24 dc24 pm24 cd24 ct24 : Value}
    (a1 : PySem.W.nsIn K mainGlobals "made" = some (some (.ref f1))) (l1 : K.lookup f1 = some ⟨oc1, od1, .func (PySem.W.fnOf "made" "made" (defArgs s_made) (defBody s_made) (defScope s_made) .none kV1 dc1 pm1 an1 cd1 ct1), sl1⟩) (c1 : PySem.W.codeIn K cd1 "made" = true) (k1 : PySem.W.keepIn K (.ref f1) = true)
    (a2 : PySem.W.nsIn K mainGlobals "added" = some (some (.ref f2))) (l2 : K.lookup f2 = some ⟨oc2, od2, .func (PySem.W.fnOf "added" "added" (defArgs s_added) (defBody s_added) (defScope s_added) .none kV2 dc2 pm2 an2 cd2 ct2), sl2⟩) (c2 : PySem.W.codeIn K cd2 "added" = true) (k2 : PySem.W.keepIn K (.ref f2) = true)
    (a3 : PySem.W.nsIn K mainGlobals "times" = some (some (.ref f3))) (l3 : K.lookup f3 = some ⟨oc3, od3, .func (PySem.W.fnOf "times" "times" (defArgs s_times) (defBody s_times) (defScope s_times) .none kV3 dc3 pm3 an3 cd3 ct3), sl3⟩) (c3 : PySem.W.codeIn K cd3 "times" = true) (k3 : PySem.W.keepIn K (.ref f3) = true)
    (a4 : PySem.W.nsIn K mainGlobals "share" = some (some (.ref f4))) (l4 : K.lookup f4 = some ⟨oc4, od4, .func (PySem.W.fnOf "share" "share" (defArgs s_share) (defBody s_share) (defScope s_share) .none kV4 dc4 pm4 an4 cd4 ct4), sl4⟩) (c4 : PySem.W.codeIn K cd4 "share" = true) (k4 : PySem.W.keepIn K (.ref f4) = true)
    (a5 : PySem.W.nsIn K mainGlobals "without" = some (some (.ref f5))) (l5 : K.lookup f5 = some ⟨oc5, od5, .func (PySem.W.fnOf "without" "without" (defArgs s_without) (defBody s_without) (defScope s_without) .none kV5 dc5 pm5 an5 cd5 ct5), sl5⟩) (c5 : PySem.W.codeIn K cd5 "without" = true) (k5 : PySem.W.keepIn K (.ref f5) = true)
    (a6 : PySem.W.nsIn K mainGlobals "put_in" = some (some (.ref f6))) (l6 : K.lookup f6 = some ⟨oc6, od6, .func (PySem.W.fnOf "put_in" "put_in" (defArgs s_put_in) (defBody s_put_in) (defScope s_put_in) .none kV6 dc6 pm6 an6 cd6 ct6), sl6⟩) (c6 : PySem.W.codeIn K cd6 "put_in" = true) (k6 : PySem.W.keepIn K (.ref f6) = true)
    (a7 : PySem.W.nsIn K mainGlobals "is_plain" = some (some (.ref f7))) (l7 : K.lookup f7 = some ⟨oc7, od7, .func (PySem.W.fnOf "is_plain" "is_plain" (defArgs s_is_plain) (defBody s_is_plain) (defScope s_is_plain) .none kV7 dc7 pm7 an7 cd7 ct7), sl7⟩) (c7 : PySem.W.codeIn K cd7 "is_plain" = true) (k7 : PySem.W.keepIn K (.ref f7) = true)
    (a8 : PySem.W.nsIn K mainGlobals "put" = some (some (.ref f8))) (l8 : K.lookup f8 = some ⟨oc8, od8, .func (PySem.W.fnOf "put" "put" (defArgs s_put) (defBody s_put) (defScope s_put) .none kV8 dc8 pm8 an8 cd8 ct8), sl8⟩) (c8 : PySem.W.codeIn K cd8 "put" = true) (k8 : PySem.W.keepIn K (.ref f8) = true)
    (a9 : PySem.W.nsIn K mainGlobals "refuse_unless_plain" = some (some (.ref f9))) (l9 : K.lookup f9 = some ⟨oc9, od9, .func (PySem.W.fnOf "refuse_unless_plain" "refuse_unless_plain" (defArgs s_refuse_unless_plain) (defBody s_refuse_unless_plain) (defScope s_refuse_unless_plain) .none kV9 dc9 pm9 an9 cd9 ct9), sl9⟩) (c9 : PySem.W.codeIn K cd9 "refuse_unless_plain" = true) (k9 : PySem.W.keepIn K (.ref f9) = true)
    (a10 : PySem.W.nsIn K mainGlobals "parts_within" = some (some (.ref f10))) (l10 : K.lookup f10 = some ⟨oc10, od10, .func (PySem.W.fnOf "parts_within" "parts_within" (defArgs s_parts_within) (defBody s_parts_within) (defScope s_parts_within) .none kV10 dc10 pm10 an10 cd10 ct10), sl10⟩) (c10 : PySem.W.codeIn K cd10 "parts_within" = true) (k10 : PySem.W.keepIn K (.ref f10) = true)
    (a11 : PySem.W.nsIn K mainGlobals "_put_within" = some (some (.ref f11))) (l11 : K.lookup f11 = some ⟨oc11, od11, .func (PySem.W.fnOf "_put_within" "_put_within" (defArgs s__put_within) (defBody s__put_within) (defScope s__put_within) .none kV11 dc11 pm11 an11 cd11 ct11), sl11⟩) (c11 : PySem.W.codeIn K cd11 "_put_within" = true) (k11 : PySem.W.keepIn K (.ref f11) = true)
    (a12 : PySem.W.nsIn K mainGlobals "_law_cell_at" = some (some (.ref f12))) (l12 : K.lookup f12 = some ⟨oc12, od12, .func (PySem.W.fnOf "_law_cell_at" "_law_cell_at" (defArgs s__law_cell_at) (defBody s__law_cell_at) (defScope s__law_cell_at) .none kV12 dc12 pm12 an12 cd12 ct12), sl12⟩) (c12 : PySem.W.codeIn K cd12 "_law_cell_at" = true) (k12 : PySem.W.keepIn K (.ref f12) = true)
    (a13 : PySem.W.nsIn K mainGlobals "_law_whole" = some (some (.ref f13))) (l13 : K.lookup f13 = some ⟨oc13, od13, .func (PySem.W.fnOf "_law_whole" "_law_whole" (defArgs s__law_whole) (defBody s__law_whole) (defScope s__law_whole) .none kV13 dc13 pm13 an13 cd13 ct13), sl13⟩) (c13 : PySem.W.codeIn K cd13 "_law_whole" = true) (k13 : PySem.W.keepIn K (.ref f13) = true)
    (a14 : PySem.W.nsIn K mainGlobals "_law_names_by" = some (some (.ref f14))) (l14 : K.lookup f14 = some ⟨oc14, od14, .func (PySem.W.fnOf "_law_names_by" "_law_names_by" (defArgs s__law_names_by) (defBody s__law_names_by) (defScope s__law_names_by) .none kV14 dc14 pm14 an14 cd14 ct14), sl14⟩) (c14 : PySem.W.codeIn K cd14 "_law_names_by" = true) (k14 : PySem.W.keepIn K (.ref f14) = true)
    (a15 : PySem.W.nsIn K mainGlobals "_law_sum_by" = some (some (.ref f15))) (l15 : K.lookup f15 = some ⟨oc15, od15, .func (PySem.W.fnOf "_law_sum_by" "_law_sum_by" (defArgs s__law_sum_by) (defBody s__law_sum_by) (defScope s__law_sum_by) .none kV15 dc15 pm15 an15 cd15 ct15), sl15⟩) (c15 : PySem.W.codeIn K cd15 "_law_sum_by" = true) (k15 : PySem.W.keepIn K (.ref f15) = true)
    (a16 : PySem.W.nsIn K mainGlobals "_law_end_by" = some (some (.ref f16))) (l16 : K.lookup f16 = some ⟨oc16, od16, .func (PySem.W.fnOf "_law_end_by" "_law_end_by" (defArgs s__law_end_by) (defBody s__law_end_by) (defScope s__law_end_by) .none kV16 dc16 pm16 an16 cd16 ct16), sl16⟩) (c16 : PySem.W.codeIn K cd16 "_law_end_by" = true) (k16 : PySem.W.keepIn K (.ref f16) = true)
    (a17 : PySem.W.nsIn K mainGlobals "_law_plain_by" = some (some (.ref f17))) (l17 : K.lookup f17 = some ⟨oc17, od17, .func (PySem.W.fnOf "_law_plain_by" "_law_plain_by" (defArgs s__law_plain_by) (defBody s__law_plain_by) (defScope s__law_plain_by) .none kV17 dc17 pm17 an17 cd17 ct17), sl17⟩) (c17 : PySem.W.codeIn K cd17 "_law_plain_by" = true) (k17 : PySem.W.keepIn K (.ref f17) = true)
    (a18 : PySem.W.nsIn K mainGlobals "_law_word_of" = some (some (.ref f18))) (l18 : K.lookup f18 = some ⟨oc18, od18, .func (PySem.W.fnOf "_law_word_of" "_law_word_of" (defArgs s__law_word_of) (defBody s__law_word_of) (defScope s__law_word_of) .none kV18 dc18 pm18 an18 cd18 ct18), sl18⟩) (c18 : PySem.W.codeIn K cd18 "_law_word_of" = true) (k18 : PySem.W.keepIn K (.ref f18) = true)
    (a19 : PySem.W.nsIn K mainGlobals "_law_alike" = some (some (.ref f19))) (l19 : K.lookup f19 = some ⟨oc19, od19, .func (PySem.W.fnOf "_law_alike" "_law_alike" (defArgs s__law_alike) (defBody s__law_alike) (defScope s__law_alike) .none kV19 dc19 pm19 an19 cd19 ct19), sl19⟩) (c19 : PySem.W.codeIn K cd19 "_law_alike" = true) (k19 : PySem.W.keepIn K (.ref f19) = true)
    (a20 : PySem.W.nsIn K mainGlobals "_law_bound_by" = some (some (.ref f20))) (l20 : K.lookup f20 = some ⟨oc20, od20, .func (PySem.W.fnOf "_law_bound_by" "_law_bound_by" (defArgs s__law_bound_by) (defBody s__law_bound_by) (defScope s__law_bound_by) .none kV20 dc20 pm20 an20 cd20 ct20), sl20⟩) (c20 : PySem.W.codeIn K cd20 "_law_bound_by" = true) (k20 : PySem.W.keepIn K (.ref f20) = true)
    (a21 : PySem.W.nsIn K mainGlobals "_law_sum_put" = some (some (.ref f21))) (l21 : K.lookup f21 = some ⟨oc21, od21, .func (PySem.W.fnOf "_law_sum_put" "_law_sum_put" (defArgs s__law_sum_put) (defBody s__law_sum_put) (defScope s__law_sum_put) .none kV21 dc21 pm21 an21 cd21 ct21), sl21⟩) (c21 : PySem.W.codeIn K cd21 "_law_sum_put" = true) (k21 : PySem.W.keepIn K (.ref f21) = true)
    (a22 : PySem.W.nsIn K mainGlobals "_law_put" = some (some (.ref f22))) (l22 : K.lookup f22 = some ⟨oc22, od22, .func (PySem.W.fnOf "_law_put" "_law_put" (defArgs s__law_put) (defBody s__law_put) (defScope s__law_put) .none kV22 dc22 pm22 an22 cd22 ct22), sl22⟩) (c22 : PySem.W.codeIn K cd22 "_law_put" = true) (k22 : PySem.W.keepIn K (.ref f22) = true)
    (a23 : PySem.W.nsIn K mainGlobals "_law_refused" = some (some (.ref f23))) (l23 : K.lookup f23 = some ⟨oc23, od23, .func (PySem.W.fnOf "_law_refused" "_law_refused" (defArgs s__law_refused) (defBody s__law_refused) (defScope s__law_refused) .none kV23 dc23 pm23 an23 cd23 ct23), sl23⟩) (c23 : PySem.W.codeIn K cd23 "_law_refused" = true) (k23 : PySem.W.keepIn K (.ref f23) = true)
    (a24 : PySem.W.nsIn K mainGlobals "law" = some (some (.ref f24))) (l24 : K.lookup f24 = some ⟨oc24, od24, .func (PySem.W.fnOf "law" "law" (defArgs s_law) (defBody s_law) (defScope s_law) .none kV24 dc24 pm24 an24 cd24 ct24), sl24⟩) (c24 : PySem.W.codeIn K cd24 "law" = true) (k24 : PySem.W.keepIn K (.ref f24) = true)
    (z_ValueError : PySem.W.nsIn K mainGlobals "ValueError" = some none)
    (z_len : PySem.W.nsIn K mainGlobals "len" = some none)
    (z_isinstance : PySem.W.nsIn K mainGlobals "isinstance" = some none)
    (z_int : PySem.W.nsIn K mainGlobals "int" = some none)
    (z_str : PySem.W.nsIn K mainGlobals "str" = some none)
    (z_bool : PySem.W.nsIn K mainGlobals "bool" = some none)
    (z_list : PySem.W.nsIn K mainGlobals "list" = some none)
    (z_tuple : PySem.W.nsIn K mainGlobals "tuple" = some none)
    (z_dict : PySem.W.nsIn K mainGlobals "dict" = some none)
    (z_set : PySem.W.nsIn K mainGlobals "set" = some none)
    (z_range : PySem.W.nsIn K mainGlobals "range" = some none)
    (z_sorted : PySem.W.nsIn K mainGlobals "sorted" = some none)
    (z_sum : PySem.W.nsIn K mainGlobals "sum" = some none)
    {odoS : Option Addr} {tkoS0 tkoS1 tkoS2 : Tok} {nnoS : Nat} {sloS : Array (Option Value)} {odbN : Option Addr} {tkbN0 tkbN1 : Tok} {nnbN : Nat} {slbN : Array (Option Value)}
    (knoS : PySem.W.nsIn K mainGlobals "OVER_SUMS" = some (some (.ref oS)))
    (kloS : K.lookup oS = some ⟨.type "tuple", odoS, .seq #[.str "above" tkoS0, .str "nought" tkoS1, .str "goes" tkoS2] nnoS, sloS⟩)
    (knbN : PySem.W.nsIn K mainGlobals "BINDING" = some (some (.ref bN)))
    (klbN : K.lookup bN = some ⟨.type "tuple", odbN, .seq #[.str "some" tkbN0, .str "all" tkbN1] nnbN, slbN⟩)
    (ggS : PySem.W.nsIn K mainGlobals "SomeError" = some (some (.ref eS)))
    (ggV : PySem.W.nsIn K mainGlobals "NoValue" = some (some (.ref eV)))
    (ggP : PySem.W.nsIn K mainGlobals "NotPlain" = some (some (.ref eP)))
    (ggN : PySem.W.nsIn K mainGlobals "NoNote" = some (some (.ref eN)))
    (es1 : PySem.W.specialIn K (.builtin "object.__class__") "__get__" = some (some (.builtin "getset_descriptor.__get__")))
    (es2 : PySem.W.takesIn K (.builtin "object.__class__") = some true)
    (ebS : PySem.W.subIn K (.ref eS) (.type "BaseException") = some true)
    (edS : PySem.W.hasDictIn K eS = true)
    (etS : PySem.W.typeIn K (.ref eS) = some (.type "type"))
    (exV : PySem.W.excIn K eV [.type "ValueError", .type "Exception", .type "BaseException", .type "object"] "ValueError.__new__" = true)
    (ekV : PySem.W.keepIn K (.ref eV) = true)
    (ebV : PySem.W.subIn K (.ref eV) (.type "BaseException") = some true)
    (etV : PySem.W.typeIn K (.ref eV) = some (.type "type"))
    (edV : PySem.W.hasDictIn K eV = true)
    (egaV : PySem.W.findIn K (.ref eV) "__getattribute__" = some (some (.builtin "BaseException.__getattribute__")))
    (egtV : PySem.W.findIn K (.ref eV) "__getattr__" = some none)
    (eclV : PySem.W.findIn K (.ref eV) "__class__" = some (some (.builtin "object.__class__")))
    (emoV : PySem.W.mroIn K eV (.type "object") = some true)
    (eveV : PySem.W.subIn K (.ref eV) (.type "ValueError") = some true)
    (emeV : PySem.W.subIn K (.ref eV) (.ref eV) = some true)
    (exP : PySem.W.excIn K eP [.type "ValueError", .type "Exception", .type "BaseException", .type "object"] "ValueError.__new__" = true)
    (ekP : PySem.W.keepIn K (.ref eP) = true)
    (ebP : PySem.W.subIn K (.ref eP) (.type "BaseException") = some true)
    (etP : PySem.W.typeIn K (.ref eP) = some (.type "type"))
    (edP : PySem.W.hasDictIn K eP = true)
    (egaP : PySem.W.findIn K (.ref eP) "__getattribute__" = some (some (.builtin "BaseException.__getattribute__")))
    (egtP : PySem.W.findIn K (.ref eP) "__getattr__" = some none)
    (eclP : PySem.W.findIn K (.ref eP) "__class__" = some (some (.builtin "object.__class__")))
    (emoP : PySem.W.mroIn K eP (.type "object") = some true)
    (eveP : PySem.W.subIn K (.ref eP) (.type "ValueError") = some true)
    (emeP : PySem.W.subIn K (.ref eP) (.ref eP) = some true)
    (exN : PySem.W.excIn K eN [.type "ValueError", .type "Exception", .type "BaseException", .type "object"] "ValueError.__new__" = true)
    (ekN : PySem.W.keepIn K (.ref eN) = true)
    (ebN : PySem.W.subIn K (.ref eN) (.type "BaseException") = some true)
    (etN : PySem.W.typeIn K (.ref eN) = some (.type "type"))
    (edN : PySem.W.hasDictIn K eN = true)
    (egaN : PySem.W.findIn K (.ref eN) "__getattribute__" = some (some (.builtin "BaseException.__getattribute__")))
    (egtN : PySem.W.findIn K (.ref eN) "__getattr__" = some none)
    (eclN : PySem.W.findIn K (.ref eN) "__class__" = some (some (.builtin "object.__class__")))
    (emoN : PySem.W.mroIn K eN (.type "object") = some true)
    (eveN : PySem.W.subIn K (.ref eN) (.type "ValueError") = some true)
    (emeN : PySem.W.subIn K (.ref eN) (.ref eN) = some true)
    (esuV : PySem.W.subIn K (.ref eV) (.ref eS) = some true)
    (esuP : PySem.W.subIn K (.ref eP) (.ref eS) = some true)
    (esuN : PySem.W.subIn K (.ref eN) (.ref eS) = some true)
    (esuVP : PySem.W.subIn K (.ref eV) (.ref eP) = some false)
    (esuVN : PySem.W.subIn K (.ref eV) (.ref eN) = some false)
    (esuPV : PySem.W.subIn K (.ref eP) (.ref eV) = some false)
    (esuPN : PySem.W.subIn K (.ref eP) (.ref eN) = some false)
    (esuNV : PySem.W.subIn K (.ref eN) (.ref eV) = some false)
    (esuNP : PySem.W.subIn K (.ref eN) (.ref eP) = some false)
    (eqVP : (Value.ref eV == Value.ref eP) = false)
    (eqVN : (Value.ref eV == Value.ref eN) = false)
    (eqPV : (Value.ref eP == Value.ref eV) = false)
    (eqPN : (Value.ref eP == Value.ref eN) = false)
    (eqNV : (Value.ref eN == Value.ref eV) = false)
    (eqNP : (Value.ref eN == Value.ref eP) = false)
    : ∃ fd : FuncData, (∀ (s : Shared) (v : Value), BindsTo s fd ⟨[v], []⟩ [("_law_script", v)]) ∧ ∀ base : Heap, K.In base → base.Ns mainGlobals mg → FnOk l.prog w K mg base CX0 66 fa fd ["_law_script"] (sp_law K) := by
  have e := hfa.symm.trans (PySem.W.mg_of X G a24)
  cases e
  have Z : Bl mg := ⟨PySem.W.mg_none_of X G z_ValueError, PySem.W.mg_none_of X G z_len, PySem.W.mg_none_of X G z_isinstance, PySem.W.mg_none_of X G z_int, PySem.W.mg_none_of X G z_str, PySem.W.mg_none_of X G z_bool, PySem.W.mg_none_of X G z_list, PySem.W.mg_none_of X G z_tuple, PySem.W.mg_none_of X G z_dict, PySem.W.mg_none_of X G z_set, PySem.W.mg_none_of X G z_range, PySem.W.mg_none_of X G z_sorted, PySem.W.mg_none_of X G z_sum⟩
  have Cn : Cs K mg oS bN := ⟨PySem.W.mg_of X G knoS, PySem.W.mg_of X G knbN, cs_tup kloS (XS.sz (by simp)) (.cons ⟨_, rfl⟩ (.cons ⟨_, rfl⟩ (.cons ⟨_, rfl⟩ (.nil)))), cs_tup klbN (XS.sz (by simp)) (.cons ⟨_, rfl⟩ (.cons ⟨_, rfl⟩ (.nil)))⟩
  have Y : Er K mg eS eV eP eN := er_mk (PySem.W.mg_of X G ggS) (PySem.W.mg_of X G ggV) (PySem.W.mg_of X G ggP) (PySem.W.mg_of X G ggN) es1 es2 ebS edS etS ⟨exV, ekV, ebV, etV, edV, egaV, egtV, eclV, emoV, eveV, emeV⟩ ⟨exP, ekP, ebP, etP, edP, egaP, egtP, eclP, emoP, eveP, emeP⟩ ⟨exN, ekN, ebN, etN, edN, egaN, egtN, eclN, emoN, eveN, emeN⟩ esuV esuP esuN esuVP esuVN esuPV esuPN esuNV esuNP eqVP eqVN eqPV eqPN eqNV eqNP
  have F_made : FunAt K mg "made" s_made P_made := ⟨_, _, fun_mk (st := s_made) l1 c1 k1, PySem.W.mg_of X G a1, (fun_mk (st := s_made) l1 c1 k1).binds (ps := P_made) fun _ _ _ _ _ _ us hl => match us, hl with | [_, _], _ => rfl⟩
  have F_added : FunAt K mg "added" s_added P_added := ⟨_, _, fun_mk (st := s_added) l2 c2 k2, PySem.W.mg_of X G a2, (fun_mk (st := s_added) l2 c2 k2).binds (ps := P_added) fun _ _ _ _ _ _ us hl => match us, hl with | [_, _], _ => rfl⟩
  have F_times : FunAt K mg "times" s_times P_times := ⟨_, _, fun_mk (st := s_times) l3 c3 k3, PySem.W.mg_of X G a3, (fun_mk (st := s_times) l3 c3 k3).binds (ps := P_times) fun _ _ _ _ _ _ us hl => match us, hl with | [_, _], _ => rfl⟩
  have F_share : FunAt K mg "share" s_share P_share := ⟨_, _, fun_mk (st := s_share) l4 c4 k4, PySem.W.mg_of X G a4, (fun_mk (st := s_share) l4 c4 k4).binds (ps := P_share) fun _ _ _ _ _ _ us hl => match us, hl with | [_, _], _ => rfl⟩
  have F_without : FunAt K mg "without" s_without P_without := ⟨_, _, fun_mk (st := s_without) l5 c5 k5, PySem.W.mg_of X G a5, (fun_mk (st := s_without) l5 c5 k5).binds (ps := P_without) fun _ _ _ _ _ _ us hl => match us, hl with | [_, _], _ => rfl⟩
  have F_put_in : FunAt K mg "put_in" s_put_in P_put_in := ⟨_, _, fun_mk (st := s_put_in) l6 c6 k6, PySem.W.mg_of X G a6, (fun_mk (st := s_put_in) l6 c6 k6).binds (ps := P_put_in) fun _ _ _ _ _ _ us hl => match us, hl with | [_, _, _], _ => rfl⟩
  have F_is_plain : FunAt K mg "is_plain" s_is_plain P_is_plain := ⟨_, _, fun_mk (st := s_is_plain) l7 c7 k7, PySem.W.mg_of X G a7, (fun_mk (st := s_is_plain) l7 c7 k7).binds (ps := P_is_plain) fun _ _ _ _ _ _ us hl => match us, hl with | [_], _ => rfl⟩
  have F_put : FunAt K mg "put" s_put P_put := ⟨_, _, fun_mk (st := s_put) l8 c8 k8, PySem.W.mg_of X G a8, (fun_mk (st := s_put) l8 c8 k8).binds (ps := P_put) fun _ _ _ _ _ _ us hl => match us, hl with | [_, _, _], _ => rfl⟩
  have F_refuse_unless_plain : FunAt K mg "refuse_unless_plain" s_refuse_unless_plain P_refuse_unless_plain := ⟨_, _, fun_mk (st := s_refuse_unless_plain) l9 c9 k9, PySem.W.mg_of X G a9, (fun_mk (st := s_refuse_unless_plain) l9 c9 k9).binds (ps := P_refuse_unless_plain) fun _ _ _ _ _ _ us hl => match us, hl with | [_], _ => rfl⟩
  have F_parts_within : FunAt K mg "parts_within" s_parts_within P_parts_within := ⟨_, _, fun_mk (st := s_parts_within) l10 c10 k10, PySem.W.mg_of X G a10, (fun_mk (st := s_parts_within) l10 c10 k10).binds (ps := P_parts_within) fun _ _ _ _ _ _ us hl => match us, hl with | [_], _ => rfl⟩
  have F__put_within : FunAt K mg "_put_within" s__put_within P__put_within := ⟨_, _, fun_mk (st := s__put_within) l11 c11 k11, PySem.W.mg_of X G a11, (fun_mk (st := s__put_within) l11 c11 k11).binds (ps := P__put_within) fun _ _ _ _ _ _ us hl => match us, hl with | [_, _, _], _ => rfl⟩
  have F__law_cell_at : FunAt K mg "_law_cell_at" s__law_cell_at P__law_cell_at := ⟨_, _, fun_mk (st := s__law_cell_at) l12 c12 k12, PySem.W.mg_of X G a12, (fun_mk (st := s__law_cell_at) l12 c12 k12).binds (ps := P__law_cell_at) fun _ _ _ _ _ _ us hl => match us, hl with | [_, _], _ => rfl⟩
  have F__law_whole : FunAt K mg "_law_whole" s__law_whole P__law_whole := ⟨_, _, fun_mk (st := s__law_whole) l13 c13 k13, PySem.W.mg_of X G a13, (fun_mk (st := s__law_whole) l13 c13 k13).binds (ps := P__law_whole) fun _ _ _ _ _ _ us hl => match us, hl with | [_], _ => rfl⟩
  have F__law_names_by : FunAt K mg "_law_names_by" s__law_names_by P__law_names_by := ⟨_, _, fun_mk (st := s__law_names_by) l14 c14 k14, PySem.W.mg_of X G a14, (fun_mk (st := s__law_names_by) l14 c14 k14).binds (ps := P__law_names_by) fun _ _ _ _ _ _ us hl => match us, hl with | [_], _ => rfl⟩
  have F__law_sum_by : FunAt K mg "_law_sum_by" s__law_sum_by P__law_sum_by := ⟨_, _, fun_mk (st := s__law_sum_by) l15 c15 k15, PySem.W.mg_of X G a15, (fun_mk (st := s__law_sum_by) l15 c15 k15).binds (ps := P__law_sum_by) fun _ _ _ _ _ _ us hl => match us, hl with | [_, _, _], _ => rfl⟩
  have F__law_end_by : FunAt K mg "_law_end_by" s__law_end_by P__law_end_by := ⟨_, _, fun_mk (st := s__law_end_by) l16 c16 k16, PySem.W.mg_of X G a16, (fun_mk (st := s__law_end_by) l16 c16 k16).binds (ps := P__law_end_by) fun _ _ _ _ _ _ us hl => match us, hl with | [_, _, _, _], _ => rfl⟩
  have F__law_plain_by : FunAt K mg "_law_plain_by" s__law_plain_by P__law_plain_by := ⟨_, _, fun_mk (st := s__law_plain_by) l17 c17 k17, PySem.W.mg_of X G a17, (fun_mk (st := s__law_plain_by) l17 c17 k17).binds (ps := P__law_plain_by) fun _ _ _ _ _ _ us hl => match us, hl with | [_, _, _, _, _, _], _ => rfl⟩
  have F__law_word_of : FunAt K mg "_law_word_of" s__law_word_of P__law_word_of := ⟨_, _, fun_mk (st := s__law_word_of) l18 c18 k18, PySem.W.mg_of X G a18, (fun_mk (st := s__law_word_of) l18 c18 k18).binds (ps := P__law_word_of) fun _ _ _ _ _ _ us hl => match us, hl with | [_], _ => rfl⟩
  have F__law_alike : FunAt K mg "_law_alike" s__law_alike P__law_alike := ⟨_, _, fun_mk (st := s__law_alike) l19 c19 k19, PySem.W.mg_of X G a19, (fun_mk (st := s__law_alike) l19 c19 k19).binds (ps := P__law_alike) fun _ _ _ _ _ _ us hl => match us, hl with | [_, _], _ => rfl⟩
  have F__law_bound_by : FunAt K mg "_law_bound_by" s__law_bound_by P__law_bound_by := ⟨_, _, fun_mk (st := s__law_bound_by) l20 c20 k20, PySem.W.mg_of X G a20, (fun_mk (st := s__law_bound_by) l20 c20 k20).binds (ps := P__law_bound_by) fun _ _ _ _ _ _ us hl => match us, hl with | [_, _, _], _ => rfl⟩
  have F__law_sum_put : FunAt K mg "_law_sum_put" s__law_sum_put P__law_sum_put := ⟨_, _, fun_mk (st := s__law_sum_put) l21 c21 k21, PySem.W.mg_of X G a21, (fun_mk (st := s__law_sum_put) l21 c21 k21).binds (ps := P__law_sum_put) fun _ _ _ _ _ _ us hl => match us, hl with | [_, _, _], _ => rfl⟩
  have F__law_put : FunAt K mg "_law_put" s__law_put P__law_put := ⟨_, _, fun_mk (st := s__law_put) l22 c22 k22, PySem.W.mg_of X G a22, (fun_mk (st := s__law_put) l22 c22 k22).binds (ps := P__law_put) fun _ _ _ _ _ _ us hl => match us, hl with | [_, _, _], _ => rfl⟩
  have F__law_refused : FunAt K mg "_law_refused" s__law_refused P__law_refused := ⟨_, _, fun_mk (st := s__law_refused) l23 c23 k23, PySem.W.mg_of X G a23, (fun_mk (st := s__law_refused) l23 c23 k23).binds (ps := P__law_refused) fun _ _ _ _ _ _ us hl => match us, hl with | [_, _, _], _ => rfl⟩
  have F_law := fun_mk (st := s_law) l24 c24 k24
  refine ⟨PySem.W.fnOf "law" "law" (defArgs s_law) (defBody s_law) (defScope s_law) .none kV24 dc24 pm24 an24 cd24 ct24, fun s v => .of_eq rfl, fun base _ _ => ?_⟩
  have D_made := d_made (P := l.prog) (w := w) (base := base) F_made Z
  have D_mk : DefAt l.prog w K mg base CX0 1 "made" P_made (sp_mk K) := D_made.imp mk_imp
  have D_share := d_share (P := l.prog) (w := w) (base := base) F_share Z
  have D_added := d_added F_added Z D_mk
  have D_times := d_times F_times Z D_mk
  have D_without := d_without F_without Z D_mk
  have D_put_in := d_put_in F_put_in Z D_added D_times D_without D_share
  have D_parts_within := d_parts_within (P := l.prog) (w := w) (base := base) Cn F_parts_within Z
  have D_is_plain := plain_all (P := l.prog) (w := w) (base := base) Cn F_is_plain Z D_parts_within 60
  have D_refuse := d_refuse_unless_plain (P := l.prog) (w := w) (base := base) Y F_refuse_unless_plain Z D_is_plain
  have D_put := d_put Y F_put Z D_refuse (put_all Cn F__put_within Z D_put_in 60)
  have D_word_of := d__law_word_of (P := l.prog) (w := w) (base := base) Y F__law_word_of Z
  have D_sum_by := d__law_sum_by (P := l.prog) (w := w) (base := base) F__law_sum_by Z
  have D_cell := d__law_cell_at (P := l.prog) (w := w) (base := base) F__law_cell_at Z
  exact d_law Y F_law Z D_cell (d__law_names_by F__law_names_by Z) (d__law_plain_by F__law_plain_by Z D_cell (d__law_end_by F__law_end_by Z D_sum_by)) (d__law_bound_by F__law_bound_by Z) D_sum_by D_put (lput_all F__law_put Z (d__law_sum_put F__law_sum_put Z) 60)
    (d__law_refused5 Y F__law_refused Z D_put D_word_of) (alike_all F__law_alike Z (d__law_whole F__law_whole Z) 60)
end R1
open PySem PySem.W PyProof.Rows
set_option maxRecDepth 100000 in
set_option maxHeartbeats 0 in
theorem PySem.Challenge.cw_somenumber_k05_put_into_holds : PySem.Challenge.rw_somenumber_k05_put_into.Holds := by
  w_on; o_law; k_head; (case hw => w_witness2)
  k_fill
  refine L2.walk_of (l := PySem.Challenge.rw_somenumber_k05_put_into) (n := 63) (k := 66) (x := "_law_script") (CX := fun _ => L2.CX0) (sp := fun w => XS.sp_law _) rfl (by decide) rfl ⟨rfl, by decide, by decide⟩ (fun w h Y => PySem.W.kIn_of Y) ?F (fun _ _ a ns hl _ hS => ⟨a, ns, rfl, hS, hl, fun _ => rfl⟩) (fun _ _ _ _ _ h => h)
  case F =>
    intro w mg fa h KX G hmg
    refine' R1.all_mk KX G hmg ?a1 ?l1 ?c1 ?k1 ?a2 ?l2 ?c2 ?k2 ?a3 ?l3 ?c3 ?k3 ?a4 ?l4 ?c4 ?k4 ?a5 ?l5 ?c5 ?k5 ?a6 ?l6 ?c6 ?k6 ?a7 ?l7 ?c7 ?k7 ?a8 ?l8 ?c8 ?k8 ?a9 ?l9 ?c9 ?k9 ?a10 ?l10 ?c10 ?k10 ?a11 ?l11 ?c11 ?k11 ?a12 ?l12 ?c12 ?k12 ?a13 ?l13 ?c13 ?k13 ?a14 ?l14 ?c14 ?k14 ?a15 ?l15 ?c15 ?k15 ?a16 ?l16 ?c16 ?k16 ?a17 ?l17 ?c17 ?k17 ?a18 ?l18 ?c18 ?k18 ?a19 ?l19 ?c19 ?k19 ?a20 ?l20 ?c20 ?k20 ?a21 ?l21 ?c21 ?k21 ?a22 ?l22 ?c22 ?k22 ?a23 ?l23 ?c23 ?k23 ?a24 ?l24 ?c24 ?k24 ?z_ValueError ?z_len ?z_isinstance ?z_int ?z_str ?z_bool ?z_list ?z_tuple ?z_dict ?z_set ?z_range ?z_sorted ?z_sum ?knoS ?kloS ?knbN ?klbN ?ggS ?ggV ?ggP ?ggN ?es1 ?es2 ?ebS ?edS ?etS ?exV ?ekV ?ebV ?etV ?edV ?egaV ?egtV ?eclV ?emoV ?eveV ?emeV ?exP ?ekP ?ebP ?etP ?edP ?egaP ?egtP ?eclP ?emoP ?eveP ?emeP ?exN ?ekN ?ebN ?etN ?edN ?egaN ?egtN ?eclN ?emoN ?eveN ?emeN ?esuV ?esuP ?esuN ?esuVP ?esuVN ?esuPV ?esuPN ?esuNV ?esuNP ?eqVP ?eqVN ?eqPV ?eqPN ?eqNV ?eqNP
    (case a1 => k_is); (case l1 => k_is); (case c1 => k_is); (case k1 => k_is)
    (case a2 => k_is); (case l2 => k_is); (case c2 => k_is); (case k2 => k_is)
    (case a3 => k_is); (case l3 => k_is); (case c3 => k_is); (case k3 => k_is)
    (case a4 => k_is); (case l4 => k_is); (case c4 => k_is); (case k4 => k_is)
    (case a5 => k_is); (case l5 => k_is); (case c5 => k_is); (case k5 => k_is)
    (case a6 => k_is); (case l6 => k_is); (case c6 => k_is); (case k6 => k_is)
    (case a7 => k_is); (case l7 => k_is); (case c7 => k_is); (case k7 => k_is)
    (case a8 => k_is); (case l8 => k_is); (case c8 => k_is); (case k8 => k_is)
    (case a9 => k_is); (case l9 => k_is); (case c9 => k_is); (case k9 => k_is)
    (case a10 => k_is); (case l10 => k_is); (case c10 => k_is); (case k10 => k_is)
    (case a11 => k_is); (case l11 => k_is); (case c11 => k_is); (case k11 => k_is)
    (case a12 => k_is); (case l12 => k_is); (case c12 => k_is); (case k12 => k_is)
    (case a13 => k_is); (case l13 => k_is); (case c13 => k_is); (case k13 => k_is)
    (case a14 => k_is); (case l14 => k_is); (case c14 => k_is); (case k14 => k_is)
    (case a15 => k_is); (case l15 => k_is); (case c15 => k_is); (case k15 => k_is)
    (case a16 => k_is); (case l16 => k_is); (case c16 => k_is); (case k16 => k_is)
    (case a17 => k_is); (case l17 => k_is); (case c17 => k_is); (case k17 => k_is)
    (case a18 => k_is); (case l18 => k_is); (case c18 => k_is); (case k18 => k_is)
    (case a19 => k_is); (case l19 => k_is); (case c19 => k_is); (case k19 => k_is)
    (case a20 => k_is); (case l20 => k_is); (case c20 => k_is); (case k20 => k_is)
    (case a21 => k_is); (case l21 => k_is); (case c21 => k_is); (case k21 => k_is)
    (case a22 => k_is); (case l22 => k_is); (case c22 => k_is); (case k22 => k_is)
    (case a23 => k_is); (case l23 => k_is); (case c23 => k_is); (case k23 => k_is)
    (case a24 => k_is); (case l24 => k_is); (case c24 => k_is); (case k24 => k_is)
    (case z_ValueError => k_is)
    (case z_len => k_is)
    (case z_isinstance => k_is)
    (case z_int => k_is)
    (case z_str => k_is)
    (case z_bool => k_is)
    (case z_list => k_is)
    (case z_tuple => k_is)
    (case z_dict => k_is)
    (case z_set => k_is)
    (case z_range => k_is)
    (case z_sorted => k_is)
    (case z_sum => k_is)
    (case knoS => k_is)
    (case kloS => k_is)
    (case knbN => k_is)
    (case klbN => k_is)
    (case ggS => k_is)
    (case ggV => k_is)
    (case ggP => k_is)
    (case ggN => k_is)
    (case es1 => k_is)
    (case es2 => k_is)
    (case ebS => k_is)
    (case edS => k_is)
    (case etS => k_is)
    (case exV => k_exc)
    (case ekV => k_is)
    (case ebV => k_is)
    (case etV => k_is)
    (case edV => k_is)
    (case egaV => k_is)
    (case egtV => k_is)
    (case eclV => k_is)
    (case emoV => k_is)
    (case eveV => k_is)
    (case emeV => k_is)
    (case exP => k_exc)
    (case ekP => k_is)
    (case ebP => k_is)
    (case etP => k_is)
    (case edP => k_is)
    (case egaP => k_is)
    (case egtP => k_is)
    (case eclP => k_is)
    (case emoP => k_is)
    (case eveP => k_is)
    (case emeP => k_is)
    (case exN => k_exc)
    (case ekN => k_is)
    (case ebN => k_is)
    (case etN => k_is)
    (case edN => k_is)
    (case egaN => k_is)
    (case egtN => k_is)
    (case eclN => k_is)
    (case emoN => k_is)
    (case eveN => k_is)
    (case emeN => k_is)
    (case esuV => k_is)
    (case esuP => k_is)
    (case esuN => k_is)
    (case esuVP => k_is)
    (case esuVN => k_is)
    (case esuPV => k_is)
    (case esuPN => k_is)
    (case esuNV => k_is)
    (case esuNP => k_is)
    (case eqVP => first | rfl | decide +kernel)
    (case eqVN => first | rfl | decide +kernel)
    (case eqPV => first | rfl | decide +kernel)
    (case eqPN => first | rfl | decide +kernel)
    (case eqNV => first | rfl | decide +kernel)
    (case eqNP => first | rfl | decide +kernel)
#print axioms PySem.Challenge.cw_somenumber_k05_put_into_holds

