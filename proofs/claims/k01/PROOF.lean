import PyProof.Rows.All
import Wide.All
import OpenK.AllK
import Wide.FinOn
import HandS.ForMost
import HandS.IsInst
import HandS.More
import HandS.Star
import HandS.TupAny
import HandS.TupMul
import HandS.Style
import HandS.Wide
import PyProof.StrOps2
import PyProof.Rows.StrMeet
import HandS.Evl
import KE.DataEq
import PySem.Challenge.RW_somenumber_k01_sum_made
set_option Elab.async false
set_option linter.all false
set_option maxRecDepth 100000
set_option maxHeartbeats 4000000
namespace XS
open PySem PySem.Spec PyProof.Rows L2

/-! ### defs by their names -/
/-- the def named nm stands in the module's names -/
def FunAt (K : PySem.W.Frag) (mg : Str → Option Value) (nm : Str) (st : Stmt) (ps : List Str) : Prop :=
  ∃ f fd, Fun K nm nm st f fd ∧ mg nm = some (.ref f) ∧ Binds K fd ps []
/-- the def named nm keeps the promise sp -/
def DefAt (P : Program) (w : World) (K : PySem.W.Frag) (mg : Str → Option Value) (base : Heap) (CX : CXT) (k : Nat) (nm : Str) (ps : List Str) (sp : Sp) : Prop :=
  ∃ f fd, FnOk P w K mg base CX k f fd ps sp ∧ mg nm = some (.ref f) ∧ PySem.W.keepIn K (.ref f) = true ∧ Binds K fd ps []
section
variable {P : Program} {w : World} {K : PySem.W.Frag} {mg : Str → Option Value} {base : Heap} {nm : Str} {st : Stmt} {ps N : List Str} {sp sp' : Sp} {k j : Nat} {CXX : CXT}
theorem DefAt.mono (D : DefAt P w K mg base CXX j nm ps sp) (h : j ≤ k) : DefAt P w K mg base CXX k nm ps sp := by
  obtain ⟨f, fd, F, a, b, c⟩ := D
  exact ⟨f, fd, F.mono h, a, b, c⟩
theorem DefAt.imp (D : DefAt P w K mg base CXX k nm ps sp) (h : ∀ vs H Q E, sp' vs H Q E → sp vs H Q E) : DefAt P w K mg base CXX k nm ps sp' := by
  obtain ⟨f, fd, F, a, b, c⟩ := D
  exact ⟨f, fd, F.imp h, a, b, c⟩
/-- a promise by the body's reading, where nothing is raised -/
theorem FunAt.ok (F : FunAt K mg nm st ps) (S : FnScope N ps (defScope st)) (len : ∀ vs H Q E, sp vs H Q E → vs.length = ps.length)
    (hbody : ∀ (f : Addr) (cdv : Value) (A : Around) (outer : List Env) (s : Shared) (H : Hp) (vs : List V) (Q : VK) (E : XK), Room k (A.deeper (envOfC nm (defScope st) s.heap.objs.size f cdv)) → sp vs H Q E →
      ∃ t, PSs (cxOf CX0 P w K mg base N nm (defScope st) f cdv A outer s H E).nox (defBody st) t ∧ t { nx := fun _ H' => Q .non H', rt := Q } (start N vs) H) : DefAt P w K mg base CX0 (k + 1) nm ps sp := by
  obtain ⟨f, fd, F, a, b⟩ := F
  exact ⟨f, fd, F.ok S len (hbody f), a, F.kp, b⟩
/-- a promise that nobody can ask -/
theorem FunAt.never (F : FunAt K mg nm st ps) (no : ∀ vs H Q E, ¬ sp vs H Q E) : DefAt P w K mg base CXX k nm ps sp := by
  obtain ⟨f, fd, F, a, b⟩ := F
  exact ⟨f, fd, ⟨fun vs H Q E h => absurd h (no vs H Q E), fun A outer s H args us vs Q E _ _ _ _ h => absurd h (no vs H Q E)⟩, a, F.kp, b⟩
end
section
variable {X : Cx} {CXX : CXT} {k : Nat} {ps : List Str} {sp : Sp} {E : XK} {x : Str} {e : Expr} {es : List Expr} {t : TA} {p pos : Pos}
theorem pe_callD (D : DefAt X.prog X.w X.K X.mg X.base CXX k x ps sp) (hr : Room k X.A) (hg : Gl X x) (hx : Passes CXX X E) (ha : PA X (e :: es) t) (hdb : (x == ("__debug__" : Str)) = false := by decide)
    (he : starEach (e :: es) X.env = (false, eval e X.env) :: starEach es X.env := by rfl) (hpl : (backTo pos (starEach es X.env)).any (·.1) = false := by rfl) : PE X (.Call (.Name x p) (e :: es) [] pos) (tCall sp [] E t) := by
  obtain ⟨f, fd, F, a, b, c⟩ := D
  exact pe_call F hr hg a b c .nil hx ha hdb he hpl
end

/-! ### text times number -/
def repS (x : Str) (n : Nat) : Str := ⟨(List.replicate n x.cps.toList).flatten.toArray⟩
theorem repS_len (x : Str) (n : Nat) : (repS x n).length = n * x.length := by
  show (List.replicate n x.cps.toList).flatten.toArray.size = n * x.cps.size
  simp
theorem foldl_cps (c : Array Nat) : ∀ (m : Nat) (acc : Array Nat), (List.replicate m c).foldl (· ++ ·) acc = acc ++ (List.replicate m c.toList).flatten.toArray
  | 0, acc => by simp
  | m + 1, acc => by
    rw [List.replicate_succ, List.foldl_cons, foldl_cps c m, List.replicate_succ, List.flatten_cons]
    apply Array.ext'
    simp
def rRepS : R2 := fun x y H Q => ∃ z k, x = .str z ∧ y = .int k ∧ 1 ≤ k ∧ k ≤ 1000 ∧ z.length ≤ 1000 ∧ Q (.str (repS z k.toNat)) H
theorem op_repS {X : Cx} : OpR X (binaryOp .Mult) rRepS := by
  intro pins s σ H x y v u Q I rx ry h
  obtain ⟨z, k, rfl, rfl, h1, h2, hz, q⟩ := h
  obtain ⟨t, rfl⟩ := rx
  obtain ⟨t2, rfl⟩ := ry
  refine PySem.P.mul_str (by simp; omega) (fun _ _ => ?_) (fun _ _ => ?_) ?_
  · have h3 : (z.length : Int) * k ≤ 1000 * 1000 := Int.mul_le_mul (by omega) h2 (by omega) (by omega)
    have h4 : (z.length : Int) ≤ (2 ^ 63 - 1) / k := Int.le_ediv_of_mul_le (by omega) (by omega)
    have h5 : ((2 : Int) ^ 63 - 1) / k = (2 ^ 63 - 1) / k := rfl
    omega
  · have h3 : z.length * k.toNat ≤ 1000 * 1000 := Nat.mul_le_mul hz (by omega)
    unfold PySem.Builtin.Str.tooLong
    simp
    have : sizeLine = 16777216 := sizeLine_eq
    omega
  · rw [if_neg (by omega)]
    by_cases hb : (k == 1 || z.length == 0) = true
    · rw [if_pos hb]
      have e : repS z k.toNat = z := by
        unfold repS
        simp only [Bool.or_eq_true, beq_iff_eq] at hb
        rcases hb with hb | hb
        · subst hb
          simp
        · have h0 : z.cps.toList = [] := by
            have : z.cps.size = 0 := hb
            simp at this
            simp [this]
          rw [h0]
          have : (List.replicate k.toNat ([] : List Nat)).flatten = [] := by simp
          rw [this]
          have h1 : z.cps = #[] := by
            have : z.cps.size = 0 := hb
            simpa using this
          cases z
          simp at h1
          subst h1
          rfl
      rw [e] at q
      exact ⟨.str z, H, I, ⟨_, rfl⟩, q⟩
    · rw [if_neg hb]
      have e : (⟨(List.replicate k.toNat z.cps).foldl (· ++ ·) #[]⟩ : Str) = repS z k.toNat := by
        unfold repS
        rw [foldl_cps]
        simp
      rw [e]
      refine ⟨?_, .str (repS z k.toNat), H, I.tok _, ⟨_, rfl⟩, q⟩
      have h3 : z.length * k.toNat ≤ 1000 * 1000 := Nat.mul_le_mul hz (by omega)
      rw [repS_len, sizeLine_eq, Nat.mul_comm]
      omega
end XS

namespace XS
open PySem PySem.Spec PyProof.Rows L2
section
variable {K : PySem.W.Frag} {σ : L2.St} {H : Hp} {ta tb te tx : TE} {t u w : TS} {c c2 : TT} {x y z v : V} {r : R2} {Q : VK} {D : Ends} {g : TG}
/-! ### one step of a reading -/
theorem beq_dec {α : Type} [DecidableEq α] (i j : α) : (i == j) = decide (i = j) := by rw [Bool.eq_iff_iff]; simp
theorem x_sAsg (h : te σ H fun x H1 => g x σ H1 (u D)) : tSeq (tAsg te g) u D σ H := h
theorem x_sIf (h : c σ H fun b H1 => if b = true then t { D with nx := u D } σ H1 else w { D with nx := u D } σ H1) : tSeq (tIfS c t w) u D σ H := h
theorem x_sDrop (h : te σ H fun _ H1 => u D σ H1) : tSeq (tDrop te) u D σ H := h
theorem x_sNext (h : u D σ H) : tSeq tNext u D σ H := h
theorem x_sSeq (h : tSeq t (tSeq w u) D σ H) : tSeq (tSeq t w) u D σ H := h
theorem x_asg (h : te σ H fun x H1 => g x σ H1 D.nx) : tAsg te g D σ H := h
theorem x_if (h : c σ H fun b H1 => if b = true then t D σ H1 else w D σ H1) : tIfS c t w D σ H := h
theorem x_drop (h : te σ H fun _ H1 => D.nx σ H1) : tDrop te D σ H := h
theorem x_ret (h : te σ H D.rt) : tRet te D σ H := h
theorem x_next (h : D.nx σ H) : tNext D σ H := h
theorem x_cont (h : D.ct σ H) : tCont D σ H := h
theorem x_nx {f : L2.St → Hp → Prop} {a b d} (h : f σ H) : Ends.nx ⟨f, a, b, d⟩ σ H := h
theorem x_ct {f : L2.St → Hp → Prop} {a b d} (h : f σ H) : Ends.ct ⟨a, b, d, f⟩ σ H := h
theorem x_rt {f : VK} {a b d} (h : f v H) : Ends.rt ⟨a, f, b, d⟩ v H := h
theorem x_bk {f : L2.St → Hp → Prop} {a b d} (h : f σ H) : Ends.bk ⟨a, b, f, d⟩ σ H := h
theorem x_gname {i : Nat} {k : L2.St → Hp → Prop} (h : k (σ.set i (some v)) H) : gName i v σ H k := h
theorem x_var {i : Nat} (e : σ[i]? = some (some v)) (h : Q v H) : tVar i σ H Q := ⟨v, e, h⟩
theorem x_c (h : Q v H) : tC v σ H Q := h
theorem x_op (h : ta σ H fun x H1 => tb σ H1 fun y H2 => r x y H2 Q) : tOp r ta tb σ H Q := h
theorem x_un {r : V → Hp → VK → Prop} (h : ta σ H fun x H1 => r x H1 Q) : tUn r ta σ H Q := h
theorem x_I0 {f : Int → Int → V} {i j : Int} (h : Q (f i j) H) : rI0 f (.int i) (.int j) H Q := ⟨i, j, rfl, rfl, h⟩
theorem x_I {C : Int → Int → Prop} {f : Int → Int → V} {i j : Int} (hc : C i j) (h : Q (f i j) H) : rI C f (.int i) (.int j) H Q := ⟨i, j, rfl, rfl, hc, h⟩
theorem x_U {f : Int → V} {i : Int} (h : Q (f i) H) : rU f (.int i) H Q := ⟨i, rfl, h⟩
theorem x_eqI {i j : Int} (h : Q (.bl (decide (i = j))) H) : rEq (.int i) (.int j) H Q := ⟨rfl, by rw [dec_int, beq_dec]; exact h⟩
theorem x_neI {i j : Int} (h : Q (.bl (!decide (i = j))) H) : rNe (.int i) (.int j) H Q := ⟨rfl, by rw [dec_int, beq_dec]; exact h⟩
theorem x_eqS {i j : Str} (h : Q (.bl (decide (i = j))) H) : rEq (.str i) (.str j) H Q := ⟨rfl, by rw [dec_str, beq_dec]; exact h⟩
theorem x_neS {i j : Str} (h : Q (.bl (!decide (i = j))) H) : rNe (.str i) (.str j) H Q := ⟨rfl, by rw [dec_str, beq_dec]; exact h⟩
theorem x_eqB {i j : Bool} (h : Q (.bl (decide (i = j))) H) : rEq (.bl i) (.bl j) H Q := ⟨rfl, by rw [dec_bl, beq_dec]; exact h⟩
theorem x_neB {i j : Bool} (h : Q (.bl (!decide (i = j))) H) : rNe (.bl i) (.bl j) H Q := ⟨rfl, by rw [dec_bl, beq_dec]; exact h⟩
theorem x_test {k : Bool → Hp → Prop} (h : te σ H fun x H' => ∃ b, x = .bl b ∧ k b H') : tTest te σ H k := h
theorem x_B {k : Bool → Hp → Prop} (h : te σ H fun x H' => ∃ b, x = .bl b ∧ k b H') : tB te σ H k := h
theorem x_k {b : Bool} {k : Bool → Hp → Prop} (h : k b H) : ∃ b', V.bl b = V.bl b' ∧ k b' H := ⟨b, rfl, h⟩
theorem x_and {k : Bool → Hp → Prop} (h : c σ H fun b H1 => if b = true then c2 σ H1 k else k false H1) : tAnd c c2 σ H k := h
theorem x_or {k : Bool → Hp → Prop} (h : c σ H fun b H1 => if b = true then k true H1 else c2 σ H1 k) : tOr c c2 σ H k := h
theorem x_not {k : Bool → Hp → Prop} (h : c σ H fun b H1 => k (!b) H1) : tNot c σ H k := h
theorem x_andV (h : ta σ H fun x H1 => ∃ b, x = .bl b ∧ if b = true then tb σ H1 Q else Q (.bl false) H1) : tAndV ta tb σ H Q := h
theorem x_orV (h : ta σ H fun x H1 => ∃ b, x = .bl b ∧ if b = true then Q (.bl true) H1 else tb σ H1 Q) : tOrV ta tb σ H Q := h
theorem x_notV (h : ta σ H fun x H1 => ∃ b, x = .bl b ∧ Q (.bl (!b)) H1) : tNotV ta σ H Q := h
theorem x_ifE (h : c σ H fun b H1 => if b = true then ta σ H1 Q else tb σ H1 Q) : tIf c ta tb σ H Q := h
theorem x_k2 {b : Bool} {P : Bool → Prop} (h : P b) : ∃ b', V.bl b = V.bl b' ∧ P b' := ⟨b, rfl, h⟩
theorem x_call {sp : Sp} {dvs : List V} {E : XK} {a : TA} (h : a σ H fun vs H1 => sp (vs ++ dvs) H1 Q E) : tCall sp dvs E a σ H Q := h
theorem x_cb {r : List V → Hp → VK → Prop} {a : TA} (h : a σ H fun vs H1 => r vs H1 Q) : tCB r a σ H Q := h
theorem x_nil {k : List V → Hp → Prop} (h : k [] H) : tNil σ H k := h
theorem x_cons {a : TA} {k : List V → Hp → Prop} (h : ta σ H fun x H1 => a σ H1 fun xs H2 => k (x :: xs) H2) : tCons ta a σ H k := h
theorem x_tup {a : TA} (h : a σ H fun xs H1 => xs.length ≤ sizeLine ∧ ∀ p, H1 p = none → Q (.ref p) (upd H1 p (.tup xs))) : tTup a σ H Q := h
theorem x_lst {a : TA} (h : a σ H fun xs H1 => xs.length ≤ sizeLine ∧ ∀ p, H1 p = none → Q (.ref p) (upd H1 p (.lst xs))) : tLst a σ H Q := h
theorem x_sl {r : V → Option Int → Option Int → Hp → VK → Prop} {tl th : TO} (h : te σ H fun x H1 => tl σ H1 fun l H2 => th σ H2 fun u H3 => r x l u H3 Q) : tSl r te tl th σ H Q := h
theorem x_nopart {k : Option Int → Hp → Prop} (h : k none H) : tNoPart σ H k := h
theorem x_part {k : Option Int → Hp → Prop} (h : te σ H fun x H1 => ∃ i, x = .int i ∧ k (some i) H1) : tPart te σ H k := h
theorem x_ki {i : Int} {P : Int → Prop} (h : P i) : ∃ i', V.int i = V.int i' ∧ P i' := ⟨i, rfl, h⟩
theorem x_bm {T : String} {r : V → List V → Hp → VK → Prop} {a : TA} (h : te σ H fun x H1 => tyV K T x H1 ∧ a σ H1 fun xs H2 => r x xs H2 Q) : tBM K T r te a σ H Q := h
theorem x_bm0 {T : String} {r : V → List V → Hp → VK → Prop} (h : te σ H fun x H1 => tyV K T x H1 ∧ r x [] H1 Q) : tBM0 K T r te σ H Q := h
theorem x_ixL {p : Addr} {xs : List V} {i : Int} (hx : SqL K H p xs) (ha : atI xs i = some v) (h : Q v H) : rIxL K (.ref p) (.int i) H Q := ⟨p, xs, i, v, rfl, rfl, hx, ha, h⟩
theorem x_ixT {p : Addr} {xs : List V} {i : Int} (hx : SqT K H p xs) (ha : atI xs i = some v) (h : Q v H) : rIxT K (.ref p) (.int i) H Q := ⟨p, xs, i, v, rfl, rfl, hx, ha, h⟩
theorem x_ixS {z : Str} {i : Int} {cc : Nat} (hz : z.length ≤ sizeLine) (ha : atI z.cps.toList i = some cc) (h : Q (.str ⟨#[cc]⟩) H) : rIxS (.str z) (.int i) H Q := ⟨z, i, cc, rfl, rfl, hz, ha, h⟩
theorem x_tyL {p : Addr} {xs : List V} (h : H p = some (.lst xs)) : tyV K "list" (.ref p) H := Or.inl ⟨rfl, _, Or.inl (Or.inl h)⟩
theorem x_tyL' {A : Prop} {p : Addr} (h1 : tyV K "list" (.ref p) H) (h : A) : tyV K "list" (.ref p) H ∧ A := ⟨h1, h⟩
theorem x_app {p : Addr} {xs : List V} (h1 : H p = some (.lst xs)) (hz : xs.length < sizeLine) (h : Q .non (upd H p (.lst (xs ++ [v])))) : rAppend (.ref p) [v] H Q := ⟨p, xs, v, rfl, rfl, h1, hz, h⟩
theorem x_T {A B : Prop} (h : A) : if true = true then A else B := by rw [if_pos rfl]; exact h
theorem x_F {A B : Prop} (h : B) : if false = true then A else B := by rw [if_neg Bool.false_ne_true]; exact h
theorem x_Tn {A B : Prop} (h : A) : if (!false) = true then A else B := x_T h
theorem x_Fn {A B : Prop} (h : B) : if (!true) = true then A else B := x_F h
theorem x_2 {b : Bool} {A B : Prop} (h1 : b = true → A) (h2 : b = false → B) : if b = true then A else B := by
  cases b with
  | true => exact x_T (h1 rfl)
  | false => exact x_F (h2 rfl)
theorem x_d {p : Prop} [Decidable p] {A B : Prop} (h1 : p → A) (h2 : ¬ p → B) : if decide p = true then A else B := by
  by_cases h : p
  · rw [decide_eq_true h]; exact x_T (h1 h)
  · rw [decide_eq_false h]; exact x_F (h2 h)
theorem x_dn {p : Prop} [Decidable p] {A B : Prop} (h1 : ¬ p → A) (h2 : p → B) : if (!decide p) = true then A else B := by
  by_cases h : p
  · rw [decide_eq_true h]; exact x_F (h2 h)
  · rw [decide_eq_false h]; exact x_T (h1 h)
/-- a known test -/
theorem x_yes {b : Bool} {A B : Prop} (hb : b = true) (h : A) : if b = true then A else B := by rw [if_pos hb]; exact h
theorem x_no {b : Bool} {A B : Prop} (hb : b = false) (h : B) : if b = true then A else B := by rw [if_neg (by rw [hb]; exact Bool.false_ne_true)]; exact h
/-- a new object: what stood stands -/
theorem same_upd {H : Hp} {p : Addr} {o : HO} (h : H p = none) : Same H (upd H p o) := fun b x e => by
  rw [upd_ne (ne_of_none e h)]
  exact e
theorem x_new {p : Addr} {o : HO} {P : Hp → Prop} (hp : H p = none) (h : ∀ H1, Same H H1 → H1 p = some o → P H1) : P (upd H p o) := h _ (same_upd hp) upd_same
theorem newly {H : Hp} {p : Addr} {o : HO} (hp : H p = none) : Same H (upd H p o) ∧ upd H p o p = some o := ⟨same_upd hp, upd_same⟩
theorem same_mut {H H' : Hp} {p : Addr} {o : HO} (e : Same H H') (h : H p = none) : Same H (upd H' p o) := fun b x q => by
  rw [upd_ne (ne_of_none q h)]
  exact e b x q
/-- a new tuple, list: told by what holds behind -/
theorem x_newT {xs : List V} {Q : VK} (hz : xs.length ≤ sizeLine) (h : ∀ p H1, H p = none → Same H H1 → H1 p = some (.tup xs) → Q (.ref p) H1) : xs.length ≤ sizeLine ∧ ∀ p, H p = none → Q (.ref p) (upd H p (.tup xs)) :=
  ⟨hz, fun p hp => h p _ hp (same_upd hp) upd_same⟩
theorem x_newL {xs : List V} {Q : VK} (hz : xs.length ≤ sizeLine) (h : ∀ p H1, H p = none → Same H H1 → H1 p = some (.lst xs) → Q (.ref p) H1) : xs.length ≤ sizeLine ∧ ∀ p, H p = none → Q (.ref p) (upd H p (.lst xs)) :=
  ⟨hz, fun p hp => h p _ hp (same_upd hp) upd_same⟩
end
/-! ### for -/
def ForJ (J : It) (g : TG) (t : TS) : TS := tFor (fun _ H' R => R J H') g t
section
variable {K : PySem.W.Frag} {σ : L2.St} {H : Hp} {tl : TE} {t u : TS} {D : Ends} {g : TG}
theorem x_for {wi : TI} (h : wi σ H fun J H1 => ForJ J g t D σ H1) : tFor wi g t D σ H := h
theorem x_sFor {wi : TI} (h : wi σ H fun J H1 => ForJ J g t { D with nx := u D } σ H1) : tSeq (tFor wi g t) u D σ H := h
theorem x_iL {R : It → Hp → Prop} (h : tl σ H fun x H1 => ∃ a, x = .ref a ∧ (∃ xs, SqL K H1 a xs) ∧ R (Itl K a) H1) : iList K tl σ H R := h
theorem x_iT {R : It → Hp → Prop} (h : tl σ H fun x H1 => ∃ a, x = .ref a ∧ (∃ xs, SqT K H1 a xs) ∧ R (Itt K a) H1) : iTup K tl σ H R := h
theorem x_iR1 {a : TA} {R : It → Hp → Prop} (h : a σ H fun vs H1 => ∃ j : Int, vs = [.int j] ∧ -(2 ^ 62) ≤ j ∧ j < 2 ^ 62 ∧ R (Itr 0 j.toNat) H1) : iRng1 a σ H R := h
theorem x_iR2 {a : TA} {R : It → Hp → Prop} (h : a σ H fun vs H1 => ∃ i j : Int, vs = [.int i, .int j] ∧ (-(2 ^ 62) ≤ i ∧ i < 2 ^ 62 ∧ -(2 ^ 62) ≤ j ∧ j < 2 ^ 62) ∧ R (Itr i (j - i).toNat) H1) : iRng2 a σ H R := h
theorem x_forL {p : Addr} {xs : List V} (hx : SqL K H p xs) (Pv : Nat → L2.St → Hp → Prop) (h0 : Pv 0 σ H) (hl : ∀ i σ' H', i ≤ xs.length → Pv i σ' H' → SqL K H' p xs)
    (hs : ∀ i x σ' H', xs[i]? = some x → Pv i σ' H' → g x σ' H' fun σ2 H2 => t { D with nx := Pv (i + 1), ct := Pv (i + 1), bk := D.nx } σ2 H2) (hd : ∀ σ' H', Pv xs.length σ' H' → D.nx σ' H') :
    ∃ a, V.ref p = .ref a ∧ (∃ xs, SqL K H a xs) ∧ ForJ (Itl K a) g t D σ H := ⟨p, rfl, ⟨xs, hx⟩, for_list (K := K) (a := p) (xs := xs) Pv h0 hl hs hd⟩
theorem x_forT {p : Addr} {xs : List V} (hx : SqT K H p xs) (Pv : Nat → L2.St → Hp → Prop) (h0 : Pv 0 σ H) (hl : ∀ i σ' H', i ≤ xs.length → Pv i σ' H' → SqT K H' p xs)
    (hs : ∀ i x σ' H', xs[i]? = some x → Pv i σ' H' → g x σ' H' fun σ2 H2 => t { D with nx := Pv (i + 1), ct := Pv (i + 1), bk := D.nx } σ2 H2) (hd : ∀ σ' H', Pv xs.length σ' H' → D.nx σ' H') :
    ∃ a, V.ref p = .ref a ∧ (∃ xs, SqT K H a xs) ∧ ForJ (Itt K a) g t D σ H := ⟨p, rfl, ⟨xs, hx⟩, for_tup (K := K) (a := p) (xs := xs) Pv h0 hl hs hd⟩
theorem x_forR1 {n : Int} (hb : -(2 ^ 62) ≤ n ∧ n < 2 ^ 62) (Pv : Nat → L2.St → Hp → Prop) (h0 : Pv 0 σ H)
    (hs : ∀ (i : Nat) σ' H', (i : Int) < n → Pv i σ' H' → g (.int (i : Int)) σ' H' fun σ2 H2 => t { D with nx := Pv (i + 1), ct := Pv (i + 1), bk := D.nx } σ2 H2) (hd : ∀ σ' H', Pv n.toNat σ' H' → D.nx σ' H') :
    ∃ j : Int, [V.int n] = [.int j] ∧ -(2 ^ 62) ≤ j ∧ j < 2 ^ 62 ∧ ForJ (Itr 0 j.toNat) g t D σ H :=
  ⟨n, rfl, hb.1, hb.2, for_range (lo := 0) (n := n.toNat) Pv h0 (fun i σ' H' hi q => by rw [Int.zero_add]; exact hs i σ' H' (by omega) q) hd⟩
theorem x_forR2 {lo n : Int} (hb : -(2 ^ 62) ≤ lo ∧ lo < 2 ^ 62 ∧ -(2 ^ 62) ≤ n ∧ n < 2 ^ 62) (Pv : Nat → L2.St → Hp → Prop) (h0 : Pv 0 σ H)
    (hs : ∀ (i : Nat) σ' H', lo + (i : Int) < n → Pv i σ' H' → g (.int (lo + (i : Int))) σ' H' fun σ2 H2 => t { D with nx := Pv (i + 1), ct := Pv (i + 1), bk := D.nx } σ2 H2) (hd : ∀ σ' H', Pv (n - lo).toNat σ' H' → D.nx σ' H') :
    ∃ i j : Int, [V.int lo, V.int n] = [.int i, .int j] ∧ (-(2 ^ 62) ≤ i ∧ i < 2 ^ 62 ∧ -(2 ^ 62) ≤ j ∧ j < 2 ^ 62) ∧ ForJ (Itr i (j - i).toNat) g t D σ H :=
  ⟨lo, n, rfl, hb, for_range (lo := lo) (n := (n - lo).toNat) Pv h0 (fun i σ' H' hi q => hs i σ' H' (by omega) q) hd⟩
/-! ### targets -/
theorem x_gtup {n : Nat} {p : Addr} {xs : List V} {gs : TGs} {k : L2.St → Hp → Prop} (hx : SqT K H p xs) (hn : xs.length = n) (h : gs xs σ H k) : gTup K n gs (.ref p) σ H k := ⟨p, xs, rfl, hx, hn, h⟩
theorem x_gcons {gs : TGs} {v : V} {r : List V} {k : L2.St → Hp → Prop} (h : g v σ H fun σ' H' => gs r σ' H' k) : gCons g gs (v :: r) σ H k := ⟨v, r, rfl, h⟩
theorem x_gnil {k : L2.St → Hp → Prop} (h : k σ H) : gNil [] σ H k := ⟨rfl, h⟩
end
theorem sz {n : Nat} (h : n ≤ 100000) : n ≤ sizeLine := Nat.le_trans h (by decide)
theorem szl {n : Nat} (h : n < 100000) : n < sizeLine := Nat.lt_of_lt_of_le h (by decide)
theorem _root_.L2.Same.seqT {K : PySem.W.Frag} {H H' : Hp} {a : Addr} {xs : List V} (e : Same H H') (h : SqT K H a xs) : SqT K H' a xs := by
  rcases h with (h | ⟨o, h⟩) | h
  · exact .inl (.inl (e _ _ h))
  · exact .inl (.inr ⟨o, e _ _ h⟩)
  · exact .inr h
end XS

namespace XS
open PySem PySem.Spec PyProof.Rows L2
/-! ### texts in order -/
def slt (a b : Str) : Prop := ltCps a.cps.toList b.cps.toList = true
theorem ltC_irr : ∀ a : List Nat, ltCps a a = false
  | [] => rfl
  | a :: r => by
    show (decide (a < a) || (a == a && ltCps r r)) = false
    rw [ltC_irr r]; simp
theorem ltC_tr : ∀ a b c : List Nat, ltCps a b = true → ltCps b c = true → ltCps a c = true
  | [], [], _, h, _ => by cases h
  | [], _ :: _, [], _, h => by cases h
  | [], _ :: _, _ :: _, _, _ => rfl
  | _ :: _, [], _, h, _ => by cases h
  | _ :: _, _ :: _, [], _, h => by cases h
  | a :: r, b :: s, c :: t, h1, h2 => by
    have h1' : (decide (a < b) || (a == b && ltCps r s)) = true := h1
    have h2' : (decide (b < c) || (b == c && ltCps s t)) = true := h2
    show (decide (a < c) || (a == c && ltCps r t)) = true
    simp only [Bool.or_eq_true, Bool.and_eq_true, decide_eq_true_eq, beq_iff_eq] at *
    rcases h1' with h1' | ⟨h1', h3⟩
    · rcases h2' with h2' | ⟨h2', h4⟩
      · exact .inl (by omega)
      · exact .inl (by omega)
    · rcases h2' with h2' | ⟨h2', h4⟩
      · exact .inl (by omega)
      · exact .inr ⟨by omega, ltC_tr r s t h3 h4⟩
theorem ltC_tot : ∀ a b : List Nat, ltCps a b = false → ltCps b a = false → a = b
  | [], [], _, _ => rfl
  | [], _ :: _, h, _ => by cases h
  | _ :: _, [], _, h => by cases h
  | a :: r, b :: s, h1, h2 => by
    have h1' : (decide (a < b) || (a == b && ltCps r s)) = false := h1
    have h2' : (decide (b < a) || (b == a && ltCps s r)) = false := h2
    simp only [Bool.or_eq_false_iff, Bool.and_eq_false_iff, decide_eq_false_iff_not, beq_eq_false_iff_ne] at *
    have e : a = b := by omega
    subst e
    have h3 : ltCps r s = false := by rcases h1'.2 with h | h; exact absurd rfl h; exact h
    have h4 : ltCps s r = false := by rcases h2'.2 with h | h; exact absurd rfl h; exact h
    rw [ltC_tot r s h3 h4]
theorem str_ext {a b : Str} (h : a.cps.toList = b.cps.toList) : a = b := by
  cases a; cases b
  simp at h
  subst h
  rfl
theorem slt_irr (a : Str) : ¬ slt a a := by unfold slt; rw [ltC_irr]; exact Bool.false_ne_true
theorem slt_tr {a b c : Str} (h1 : slt a b) (h2 : slt b c) : slt a c := ltC_tr _ _ _ h1 h2
theorem slt_asym {a b : Str} (h1 : slt a b) (h2 : slt b a) : False := slt_irr _ (slt_tr h1 h2)
theorem slt_tot {a b : Str} (h1 : ¬ slt a b) (h2 : ¬ slt b a) : a = b := str_ext (ltC_tot _ _ (by unfold slt at h1; simpa using h1) (by unfold slt at h2; simpa using h2))
theorem slt_lt {a b : Str} : slt a b ↔ a.cps.toList < b.cps.toList := by unfold slt; rw [ltCps_eq]; simp
/-- rising names -/
def Rising (xs : List Str) : Prop := xs.Pairwise slt
theorem rising_of : ∀ {xs : List Str}, xs.Nodup → sortedS xs = true → Rising xs := by
  have key : ∀ (r : List Str) (p : Str), (p :: r).Nodup → risingS p r = true → Rising (p :: r) := by
    intro r
    induction r with
    | nil => intro p _ _; exact List.pairwise_singleton _ _
    | cons x r ih =>
      intro p nd h
      have h' : (!ltCps x.cps.toList p.cps.toList && risingS x r) = true := h
      simp only [Bool.and_eq_true, Bool.not_eq_true'] at h'
      have nd2 := (List.nodup_cons.mp nd).2
      have ih' := ih x nd2 h'.2
      have hpx : slt p x := by
        by_cases e : slt p x
        · exact e
        · have : p = x := slt_tot e (by unfold slt; rw [h'.1]; exact Bool.false_ne_true)
          subst this
          exact absurd (List.mem_cons_self ..) (List.nodup_cons.mp nd).1
      refine List.pairwise_cons.mpr ⟨fun y hy => ?_, ih'⟩
      rcases List.mem_cons.mp hy with rfl | hy
      · exact hpx
      · exact slt_tr hpx (List.rel_of_pairwise_cons ih' hy)
  intro xs nd h
  cases xs with
  | nil => exact List.Pairwise.nil
  | cons p r => exact key r p nd h
theorem Rising.nodup {xs : List Str} (h : Rising xs) : xs.Nodup := List.Pairwise.imp (fun {a b} h e => by subst e; exact slt_irr _ h) h
/-- rising lists of the same members are the same -/
theorem rising_ext : ∀ {xs ys : List Str}, Rising xs → Rising ys → (∀ x, x ∈ xs ↔ x ∈ ys) → xs = ys
  | [], [], _, _, _ => rfl
  | [], y :: _, _, _, h => absurd ((h y).mpr (List.mem_cons_self ..)) (by simp)
  | x :: _, [], _, _, h => absurd ((h x).mp (List.mem_cons_self ..)) (by simp)
  | x :: xs, y :: ys, hx, hy, h => by
    have e : x = y := by
      rcases List.mem_cons.mp ((h x).mp (List.mem_cons_self ..)) with e | hm
      · exact e
      · rcases List.mem_cons.mp ((h y).mpr (List.mem_cons_self ..)) with e | hm2
        · exact e.symm
        · exact (slt_asym (List.rel_of_pairwise_cons hx hm2) (List.rel_of_pairwise_cons hy hm)).elim
    subst e
    have : xs = ys := by
      refine rising_ext (List.pairwise_cons.mp hx).2 (List.pairwise_cons.mp hy).2 fun z => ⟨fun hz => ?_, fun hz => ?_⟩
      · rcases List.mem_cons.mp ((h z).mp (List.mem_cons_of_mem _ hz)) with e | hm
        · subst e; exact (slt_irr _ (List.rel_of_pairwise_cons hx hz)).elim
        · exact hm
      · rcases List.mem_cons.mp ((h z).mpr (List.mem_cons_of_mem _ hz)) with e | hm
        · subst e; exact (slt_irr _ (List.rel_of_pairwise_cons hy hz)).elim
        · exact hm
    rw [this]
/-! ### sums -/
abbrev Pr := Str × Int
/-- the share of a name in pairs, in any order -/
def shr (ps : List Pr) (x : Str) : Int := ((ps.filter fun p => decide (p.1 = x)).map (·.2)).sum
theorem shr_nil (x : Str) : shr [] x = 0 := rfl
theorem shr_cons (p : Pr) (ps : List Pr) (x : Str) : shr (p :: ps) x = (if p.1 = x then p.2 else 0) + shr ps x := by
  unfold shr
  by_cases h : p.1 = x
  · rw [List.filter_cons, if_pos (by simpa using h), if_pos h]; rfl
  · rw [List.filter_cons, if_neg (by simpa using h), if_neg h, Int.zero_add]
theorem shr_app (ps qs : List Pr) (x : Str) : shr (ps ++ qs) x = shr ps x + shr qs x := by
  unfold shr
  rw [List.filter_append, List.map_append, List.sum_append]
theorem shr_out {ps : List Pr} {x : Str} (h : x ∉ ps.map (·.1)) : shr ps x = 0 := by
  induction ps with
  | nil => rfl
  | cons p ps ih =>
    rw [List.map_cons, List.mem_cons, not_or] at h
    rw [shr_cons, if_neg (fun e => h.1 e.symm), ih h.2, Int.zero_add]
theorem shr_at {ps : List Pr} {p : Pr} (nd : (ps.map (·.1)).Nodup) (h : p ∈ ps) : shr ps p.1 = p.2 := by
  induction ps with
  | nil => cases h
  | cons q ps ih =>
    rw [List.map_cons] at nd
    have nd' := List.nodup_cons.mp nd
    rw [shr_cons]
    rcases List.mem_cons.mp h with rfl | h
    · rw [if_pos rfl, shr_out nd'.1, Int.add_zero]
    · rw [if_neg (fun e => nd'.1 (by rw [e]; exact List.mem_map_of_mem h)), ih nd'.2 h, Int.zero_add]
/-- the form of a sum's parts -/
structure Norm (ps : List Pr) : Prop where
  rise : Rising (ps.map (·.1))
  nz : ∀ p ∈ ps, p.2 ≠ 0
theorem Norm.mem_iff {ps : List Pr} (n : Norm ps) (x : Str) : x ∈ ps.map (·.1) ↔ shr ps x ≠ 0 := by
  constructor
  · intro h
    obtain ⟨p, hp, rfl⟩ := List.mem_map.mp h
    rw [shr_at n.rise.nodup hp]
    exact n.nz p hp
  · intro h
    by_cases c : x ∈ ps.map (·.1)
    · exact c
    · exact absurd (shr_out c) h
theorem pairs_of {ps : List Pr} (nd : (ps.map (·.1)).Nodup) : ps = (ps.map (·.1)).map fun x => (x, shr ps x) := by
  rw [List.map_map]
  refine (List.map_id ps).symm.trans (List.map_congr_left fun p hp => ?_)
  show p = (p.1, shr ps p.1)
  rw [shr_at nd hp]
theorem norm_ext {ps qs : List Pr} (n : Norm ps) (m : Norm qs) (h : ∀ x, shr ps x = shr qs x) : ps = qs := by
  have e : ps.map (·.1) = qs.map (·.1) := rising_ext n.rise m.rise fun x => by rw [n.mem_iff, m.mem_iff, h]
  rw [pairs_of n.rise.nodup, pairs_of m.rise.nodup, e]
  exact List.map_congr_left fun x _ => by rw [h]
/-- of rising names those with a share -/
def kept (xs : List Str) (f : Str → Int) : List Pr := (xs.filter fun x => decide (f x ≠ 0)).map fun x => (x, f x)
theorem kept_names (xs : List Str) (f : Str → Int) : (kept xs f).map (·.1) = xs.filter fun x => decide (f x ≠ 0) := by
  unfold kept
  rw [List.map_map]
  exact (List.map_congr_left fun x _ => rfl).trans (List.map_id _)
theorem kept_norm {xs : List Str} {f : Str → Int} (h : Rising xs) : Norm (kept xs f) where
  rise := by rw [kept_names]; exact List.Pairwise.sublist List.filter_sublist h
  nz := fun p hp => by
    unfold kept at hp
    obtain ⟨x, hx, rfl⟩ := List.mem_map.mp hp
    simpa using (List.mem_filter.mp hx).2
theorem kept_shr {xs : List Str} {f : Str → Int} (h : Rising xs) (hf : ∀ x, x ∉ xs → f x = 0) (x : Str) : shr (kept xs f) x = f x := by
  by_cases c : x ∈ (kept xs f).map (·.1)
  · obtain ⟨p, hp, rfl⟩ := List.mem_map.mp c
    rw [shr_at (kept_norm h).rise.nodup hp]
    unfold kept at hp
    obtain ⟨y, hy, rfl⟩ := List.mem_map.mp hp
    rfl
  · rw [shr_out c]
    rw [kept_names, List.mem_filter] at c
    by_cases d : x ∈ xs
    · by_cases e : f x = 0
      · exact e.symm
      · exact absurd ⟨d, by simpa using e⟩ c
    · exact (hf x d).symm
/-! ### data -/
def prT (p : Pr) : PyData := .tuple [.str p.1, .int p.2]
abbrev Sm := Int × List Pr
def sumD (s : Sm) : PyData := .tuple [.int s.1, .tuple (s.2.map prT)]
/-- data of ints, texts, True, None, tuples and lists, n deep at most -/
inductive Al : Nat → PyData → Prop
  | int {n : Nat} (i : Int) : Al n (.int i)
  | str {n : Nat} (x : Str) : Al n (.str x)
  | tru {n : Nat} : Al n (.bool true)
  | non {n : Nat} : Al n .none
  | tup {n : Nat} {ds : List PyData} : (∀ d ∈ ds, Al n d) → ds.length ≤ 1000 → Al (n + 1) (.tuple ds)
  | lst {n : Nat} {ds : List PyData} : (∀ d ∈ ds, Al n d) → ds.length ≤ 1000 → Al (n + 1) (.list ds)
theorem al_pair {n : Nat} (p : Pr) : Al (n + 1) (prT p) := by
  refine .tup (fun d hd => ?_) (by simp)
  rcases List.mem_cons.mp hd with rfl | hd
  · exact .str _
  · rcases List.mem_cons.mp hd with rfl | hd
    · exact .int _
    · cases hd
theorem al_sum {n : Nat} {s : Sm} (h : s.2.length ≤ 1000) : Al (n + 3) (sumD s) := by
  refine .tup (fun d hd => ?_) (by simp)
  rcases List.mem_cons.mp hd with rfl | hd
  · exact .int _
  · rcases List.mem_cons.mp hd with rfl | hd
    · refine .tup (fun d hd => ?_) (by rw [List.length_map]; exact h)
      obtain ⟨p, _, rfl⟩ := List.mem_map.mp hd
      exact al_pair p
    · cases hd
end XS
namespace L2
open PySem PySem.Spec PyProof.Rows XS
section
variable {K : PySem.W.Frag} {H H' : Hp}
/-! what stands keeps its data -/
mutual
theorem Dp.same (e : Same H H') : ∀ (d : PyData) (v : V), Dp K H v d → Dp K H' v d
  | .none, _, h => by cases h; exact .non
  | .bool b, _, h => by cases h; exact .bl b
  | .int i, _, h => by cases h; exact .int i
  | .str x, _, h => by cases h; exact .str x
  | .list ds, _, h => by
    cases h with
    | lst hs ha => exact .lst (e.seq hs) (DpAll.same e ds _ ha)
  | .tuple ds, _, h => by
    cases h with
    | tup hs ha => exact .tup (e.seqT hs) (DpAll.same e ds _ ha)
  | .dict _, _, h => by cases h
theorem DpAll.same (e : Same H H') : ∀ (ds : List PyData) (vs : List V), DpAll K H vs ds → DpAll K H' vs ds
  | [], _, h => by cases h; exact .nil
  | d :: ds, _, h => by
    cases h with
    | cons h1 h2 => exact .cons (Dp.same e d _ h1) (DpAll.same e ds _ h2)
end
theorem DpAll.len : ∀ {vs : List V} {ds : List PyData}, DpAll K H vs ds → vs.length = ds.length
  | [], _, h => by cases h; rfl
  | v :: vs, _, h => by
    cases h with
    | cons h1 h2 => rw [List.length_cons, List.length_cons, DpAll.len h2]
theorem DpAll.get : ∀ {vs : List V} {ds : List PyData} {i : Nat} {d : PyData}, DpAll K H vs ds → ds[i]? = some d → ∃ v, vs[i]? = some v ∧ Dp K H v d
  | [], _, i, d, h, e => by cases h; simp at e
  | v :: vs, _, 0, d, h, e => by
    cases h with
    | cons h1 h2 =>
      simp at e
      subst e
      exact ⟨v, rfl, h1⟩
  | v :: vs, _, i + 1, d, h, e => by
    cases h with
    | cons h1 h2 =>
      obtain ⟨u, q1, q2⟩ := DpAll.get (i := i) (d := d) h2 (by simpa using e)
      exact ⟨u, by simpa using q1, q2⟩
theorem DpAll.getV : ∀ {vs : List V} {ds : List PyData} {i : Nat} {v : V}, DpAll K H vs ds → vs[i]? = some v → ∃ d, ds[i]? = some d ∧ Dp K H v d
  | [], _, i, d, h, e => by simp at e
  | v :: vs, _, 0, d, h, e => by
    cases h with
    | cons h1 h2 =>
      simp at e
      subst e
      exact ⟨_, rfl, h1⟩
  | v :: vs, _, i + 1, d, h, e => by
    cases h with
    | cons h1 h2 =>
      obtain ⟨u, q1, q2⟩ := DpAll.getV (i := i) h2 (by simpa using e)
      exact ⟨u, by simpa using q1, q2⟩
theorem DpAll.app : ∀ {vs ws : List V} {ds es : List PyData}, DpAll K H vs ds → DpAll K H ws es → DpAll K H (vs ++ ws) (ds ++ es)
  | [], _, _, _, h, g => by cases h; exact g
  | v :: vs, _, _, _, h, g => by
    cases h with
    | cons h1 h2 => exact .cons h1 (DpAll.app h2 g)
theorem DpAll.one {v : V} {d : PyData} (h : Dp K H v d) : DpAll K H [v] [d] := .cons h .nil
end
end L2
namespace XS
open PySem PySem.Spec PyProof.Rows L2
section
variable {K : PySem.W.Frag} {H H' : Hp}
/-- the kinds of objects -/
theorem tyx_T {a : Addr} {xs : List V} (h : SqT K H a xs) : TyX K H (.ref a) (.type "tuple") := by
  rcases h with (h | ⟨o, h⟩) | ⟨o, its, n, h, hc, _⟩
  · exact .base (.tup h)
  · exact .fTuple h
  · exact .kTuple h hc
theorem tyx_L {a : Addr} {xs : List V} (h : SqL K H a xs) : TyX K H (.ref a) (.type "list") := by
  rcases h with (h | ⟨o, h⟩) | ⟨o, its, n, h, hc, _⟩
  · exact .base (.lst h)
  · exact .base (.frz h)
  · exact .kList h hc
end
/-- x is True, False -/
def rIsC : R2 := fun x y H Q => ∃ b, y = .bl b ∧ Q (.bl (decide (x = .bl b))) H
theorem op_isC {X : Cx} : OpR X (compareOp .Is) rIsC := by
  intro pins s σ H x y v u Q I rx ry h
  obtain ⟨b, rfl, q⟩ := h
  cases (show u = Value.bool b from ry)
  have fin : ∀ k, decide (x = V.bl b) = k → wpAny (model X.prog X.w) X.A (pure (Value.bool k)) (EP X pins σ Q) X.xe s := fun k e => wpAny_pure ⟨.bl k, H, I, rfl, by rw [← e]; exact q⟩
  cases x with
  | non => cases rx; exact fin false (by simp)
  | bl a =>
    cases rx
    have e : (Value.bool a == Value.bool b) = decide (V.bl a = V.bl b) := by cases a <;> cases b <;> rfl
    show wpAny _ _ (pure (Value.bool (Value.bool a == Value.bool b))) _ _ _
    rw [e]
    exact fin _ rfl
  | int i => obtain ⟨t, rfl⟩ := rx; exact fin false (by simp)
  | str i => obtain ⟨t, rfl⟩ := rx; exact fin false (by simp)
  | byt i => obtain ⟨t, rfl⟩ := rx; exact fin false (by simp)
  | flt i => obtain ⟨t, rfl⟩ := rx; exact fin false (by simp)
  | ref i => cases rx; exact fin false (by simp)
  | ty i => cases rx; exact fin false (by simp)
end XS

namespace XS
open PySem PySem.Spec PyProof.Rows L2
/-! ### data that never changes: tuples, ints, texts -/
inductive Im : PyData → Prop
  | int (i : Int) : Im (.int i)
  | str (x : Str) : Im (.str x)
  | bl (b : Bool) : Im (.bool b)
  | non : Im .none
  | tup {ds : List PyData} : (∀ d ∈ ds, Im d) → Im (.tuple ds)
theorem im_pair (p : Pr) : Im (prT p) := by
  refine .tup fun d hd => ?_
  rcases List.mem_cons.mp hd with rfl | hd
  · exact .str _
  · rcases List.mem_cons.mp hd with rfl | hd
    · exact .int _
    · cases hd
theorem im_tup2 {a b : PyData} (ha : Im a) (hb : Im b) : Im (.tuple [a, b]) := by
  refine .tup fun d hd => ?_
  rcases List.mem_cons.mp hd with rfl | hd
  · exact ha
  · rcases List.mem_cons.mp hd with rfl | hd
    · exact hb
    · cases hd
theorem im_map {α : Type} {l : List α} {f : α → PyData} (h : ∀ x ∈ l, Im (f x)) : Im (.tuple (l.map f)) := .tup fun d hd => by
  obtain ⟨x, hx, rfl⟩ := List.mem_map.mp hd
  exact h x hx
theorem im_sum (s : Sm) : Im (sumD s) := im_tup2 (.int _) (im_map fun p _ => im_pair p)
/-- what never changes stands -/
def Keeps (H H' : Hp) : Prop := ∀ a u, (∃ xs, u = HO.tup xs) ∨ (∃ o w, u = HO.frz o w) → H a = some u → H' a = some u
theorem Keeps.refl (H : Hp) : Keeps H H := fun _ _ _ h => h
theorem Keeps.trans {H H1 H2 : Hp} (a : Keeps H H1) (b : Keeps H1 H2) : Keeps H H2 := fun x u k h => b x u k (a x u k h)
theorem _root_.L2.Same.keeps {H H' : Hp} (e : Same H H') : Keeps H H' := fun a u _ h => e a u h
theorem keeps_lst {H : Hp} {p : Addr} {xs ys : List V} (h : H p = some (.lst xs)) : Keeps H (upd H p (.lst ys)) := fun a u k e => by
  rw [upd_ne (fun z => ?_)]
  · exact e
  · subst z
    rw [h] at e
    cases e
    rcases k with ⟨_, k⟩ | ⟨_, _, k⟩ <;> cases k
theorem keeps_dk {H : Hp} {p : Addr} {xs ys : List (Key × V)} (h : H p = some (.dK xs)) : Keeps H (upd H p (.dK ys)) := fun a u k e => by
  rw [upd_ne (fun z => ?_)]
  · exact e
  · subst z
    rw [h] at e
    cases e
    rcases k with ⟨_, k⟩ | ⟨_, _, k⟩ <;> cases k
theorem Keeps.seqT {K : PySem.W.Frag} {H H' : Hp} {a : Addr} {xs : List V} (e : Keeps H H') (h : SqT K H a xs) : SqT K H' a xs := by
  rcases h with (h | ⟨o, h⟩) | h
  · exact .inl (.inl (e _ _ (.inl ⟨_, rfl⟩) h))
  · exact .inl (.inr ⟨o, e _ _ (.inr ⟨_, _, rfl⟩) h⟩)
  · exact .inr h
end XS
namespace L2
open PySem PySem.Spec PyProof.Rows XS
section
variable {K : PySem.W.Frag} {H H' : Hp}
mutual
theorem Dp.keeps (e : Keeps H H') : ∀ (d : PyData) (v : V), Im d → Dp K H v d → Dp K H' v d
  | .none, _, _, h => by cases h; exact .non
  | .bool b, _, _, h => by cases h; exact .bl b
  | .int i, _, _, h => by cases h; exact .int i
  | .str x, _, _, h => by cases h; exact .str x
  | .list ds, _, i, h => by cases i
  | .tuple ds, _, i, h => by
    cases h with
    | tup hs ha =>
      cases i with
      | tup i => exact .tup (XS.Keeps.seqT e hs) (DpAll.keeps e ds _ i ha)
  | .dict _, _, _, h => by cases h
theorem DpAll.keeps (e : Keeps H H') : ∀ (ds : List PyData) (vs : List V), (∀ d ∈ ds, Im d) → DpAll K H vs ds → DpAll K H' vs ds
  | [], _, _, h => by cases h; exact .nil
  | d :: ds, _, i, h => by
    cases h with
    | cons h1 h2 => exact .cons (Dp.keeps e d _ (i d (List.mem_cons_self ..)) h1) (DpAll.keeps e ds _ (fun z hz => i z (List.mem_cons_of_mem _ hz)) h2)
end
/-- pairs, sums as they stand -/
theorem Dp.pair {v : V} {p : Pr} (h : Dp K H v (prT p)) : ∃ b, v = .ref b ∧ SqT K H b [.str p.1, .int p.2] := by
  unfold prT at h
  cases h with
  | tup hs ha =>
    cases ha with
    | cons h1 h2 =>
      cases h2 with
      | cons h2 h3 =>
        cases h3
        cases h1
        cases h2
        exact ⟨_, rfl, hs⟩
theorem Dp.mkPair {b : Addr} {p : Pr} (h : SqT K H b [.str p.1, .int p.2]) : Dp K H (.ref b) (prT p) := .tup h (.cons (.str _) (.cons (.int _) .nil))
theorem Dp.sum {v : V} {s : Sm} (h : Dp K H v (sumD s)) : ∃ a b vs, v = .ref a ∧ SqT K H a [.int s.1, .ref b] ∧ SqT K H b vs ∧ DpAll K H vs (s.2.map prT) := by
  unfold sumD at h
  cases h with
  | tup hs ha =>
    cases ha with
    | cons h1 h2 =>
      cases h2 with
      | cons h2 h3 =>
        cases h3
        cases h1
        cases h2 with
        | tup hb hc => exact ⟨_, _, _, rfl, hs, hb, hc⟩
theorem Dp.mkSum {a b : Addr} {vs : List V} {s : Sm} (h1 : SqT K H a [.int s.1, .ref b]) (h2 : SqT K H b vs) (h3 : DpAll K H vs (s.2.map prT)) : Dp K H (.ref a) (sumD s) :=
  .tup h1 (.cons (.int _) (.cons (.tup h2 h3) .nil))
theorem DpAll.ints : ∀ {vs : List V} {ns : List Int}, DpAll K H vs (ns.map PyData.int) → vs = ns.map V.int
  | [], [], _ => rfl
  | [], n :: _, h => by cases h
  | v :: vs, [], h => by cases h
  | v :: vs, n :: ns, h => by
    cases h with
    | cons h1 h2 =>
      cases h1
      rw [DpAll.ints h2]
      rfl
theorem DpAll.strs : ∀ {vs : List V} {ns : List Str}, DpAll K H vs (ns.map PyData.str) → vs = ns.map V.str
  | [], [], _ => rfl
  | [], n :: _, h => by cases h
  | v :: vs, [], h => by cases h
  | v :: vs, n :: ns, h => by
    cases h with
    | cons h1 h2 =>
      cases h1
      rw [DpAll.strs h2]
      rfl
theorem DpAll.ofInts : ∀ (ns : List Int), DpAll K H (ns.map V.int) (ns.map PyData.int)
  | [] => .nil
  | n :: ns => .cons (.int n) (DpAll.ofInts ns)
theorem DpAll.ofStrs : ∀ (ns : List Str), DpAll K H (ns.map V.str) (ns.map PyData.str)
  | [] => .nil
  | n :: ns => .cons (.str n) (DpAll.ofStrs ns)
end
end L2
namespace XS
open PySem PySem.Spec PyProof.Rows L2
/-! ### comprehensions: what is built of immutable data -/
def LcJ (J : It) (g : TG) (tt : TT) (te : TE) (vs : List Nat) : TE := tLc (fun _ H' R => R J H') g tt te vs
section
variable {K : PySem.W.Frag} {σ : L2.St} {H : Hp} {te : TE} {tt : TT} {g : TG} {vs : List Nat} {Q : VK} {α : Type}
theorem x_tyes {k : Bool → Hp → Prop} (h : k true H) : tYes σ H k := h
theorem x_lc {wi : TI} (h : wi σ H fun J H1 => LcJ J g tt te vs σ H1 Q) : tLc wi g tt te vs σ H Q := h
/-- the list so far -/
def LcAt (K : PySem.W.Frag) (H : Hp) (Dl : Addr) (ds : List PyData) (H' : Hp) : Prop := H Dl = none ∧ Same H H' ∧ ∃ acc, H' Dl = some (.lst acc) ∧ DpAll K H' acc ds
theorem lcAt_more {Dl : Addr} {ds : List PyData} {H' H4 : Hp} {y : V} {d : PyData} (a : LcAt K H Dl ds H') (e : Same H' H4) (hd : Dp K H4 y d) (im : Im d) (ims : ∀ d ∈ ds, Im d) (hz : ds.length < 100000) :
    ∃ acc, H4 Dl = some (.lst acc) ∧ acc.length < sizeLine ∧ LcAt K H Dl (ds ++ [d]) (upd H4 Dl (.lst (acc ++ [y]))) := by
  obtain ⟨a1, a2, acc, a3, a4⟩ := a
  have k := keeps_lst (ys := acc ++ [y]) (e _ _ a3)
  refine ⟨acc, e _ _ a3, szl (by have := a4.len; omega), a1, same_mut (a2.trans e) a1, acc ++ [y], upd_same, ?_⟩
  exact (DpAll.keeps k ds acc ims (DpAll.same e ds acc a4)).app (.one (Dp.keeps k d y im hd))
theorem take_more {l : List α} {i : Nat} {x : α} (h : l[i]? = some x) : l.take (i + 1) = l.take i ++ [x] := by
  rw [List.take_add_one, h]
  rfl
theorem map_at {β : Type} {zs : List α} {emb : α → β} {i : Nat} {x : β} (h : (zs.map emb)[i]? = some x) : ∃ z, zs[i]? = some z ∧ x = emb z := by
  rw [List.getElem?_map] at h
  cases e : zs[i]? with
  | none => rw [e] at h; cases h
  | some z => rw [e] at h; exact ⟨z, rfl, (Option.some.inj h).symm⟩
/-- one turn, with the continuations left open -/
def LcTurn (K : PySem.W.Frag) (H : Hp) (g : TG) (tt : TT) (te : TE) (σ : L2.St) (vs : List Nat) (x : V) (b : Bool) (d : PyData) : Prop :=
  ∀ (H' : Hp) (Yes : V → Hp → Prop) (No : Hp → Prop), Same H H' → (∀ y H4, Same H' H4 → b = true → Dp K H4 y d → Yes y H4) → (∀ H4, Same H' H4 → b = false → No H4) →
    g x (wipe σ vs) H' fun σ2 H2 => wipe σ2 vs = wipe σ vs ∧ tt σ2 H2 fun b H3 => if b = true then te σ2 H3 Yes else No H3
theorem x_lcL {p : Addr} (zs : List α) (emb : α → V) (f : α → Bool) (dd : α → PyData) (hx : SqL K H p (zs.map emb)) (hz : zs.length < 50000) (im : ∀ z, Im (dd z))
    (turn : ∀ z ∈ zs, LcTurn K H g tt te σ vs (emb z) (f z) (dd z))
    (done : ∀ Dl H' acc, H Dl = none → Same H H' → H' Dl = some (.lst acc) → DpAll K H' acc ((zs.filter f).map dd) → Q (.ref Dl) H') :
    ∃ a, V.ref p = .ref a ∧ (∃ xs, SqL K H a xs) ∧ LcJ (Itl K a) g tt te vs σ H Q := by
  refine ⟨p, rfl, ⟨_, hx⟩, fun Dl hD => lc_list (K := K) (a := p) (xs := zs.map emb) (fun i H' => LcAt K H Dl (((zs.take i).filter f).map dd) H')
    ⟨hD, same_upd hD, [], upd_same, .nil⟩ (fun i H' _ a => a.2.1.seq hx) (fun i x H' hi a => ?_) (fun H' a => ?_)⟩
  · obtain ⟨z, hz1, rfl⟩ := map_at hi
    have hl : (((zs.take i).filter f).map dd).length < 100000 := by
      rw [List.length_map]
      have h1 := List.length_filter_le f (zs.take i)
      rw [List.length_take] at h1
      omega
    refine turn z (List.mem_of_getElem? hz1) H' _ _ a.2.1 (fun y H4 e hf hd => ?_) (fun H4 e hf => ?_)
    · have := lcAt_more a e hd (im z) (fun d hd => by obtain ⟨q, _, rfl⟩ := List.mem_map.mp hd; exact im q) hl
      rw [take_more hz1, List.filter_append, List.map_append, List.filter_cons, if_pos hf]
      exact this
    · rw [take_more hz1, List.filter_append, List.map_append, List.filter_cons, if_neg (by rw [hf]; exact Bool.false_ne_true)]
      show LcAt K H Dl (_ ++ []) H4
      rw [List.append_nil]
      obtain ⟨a1, a2, acc, a3, a4⟩ := a
      exact ⟨a1, a2.trans e, acc, e _ _ a3, DpAll.same e _ _ a4⟩
  · obtain ⟨a1, a2, acc, a3, a4⟩ := a
    rw [List.length_map, List.take_length] at a4
    exact done Dl H' acc a1 a2 a3 a4
theorem x_lcT {p : Addr} (zs : List α) (ws : List V) (f : α → Bool) (dd : α → PyData) (hx : SqT K H p ws) (hl : ws.length = zs.length) (hz : zs.length < 50000) (im : ∀ z, Im (dd z))
    (turn : ∀ (i : Nat) (z : α) (w : V), zs[i]? = some z → ws[i]? = some w → LcTurn K H g tt te σ vs w (f z) (dd z))
    (done : ∀ Dl H' acc, H Dl = none → Same H H' → H' Dl = some (.lst acc) → DpAll K H' acc ((zs.filter f).map dd) → Q (.ref Dl) H') :
    ∃ a, V.ref p = .ref a ∧ (∃ xs, SqT K H a xs) ∧ LcJ (Itt K a) g tt te vs σ H Q := by
  refine ⟨p, rfl, ⟨_, hx⟩, fun Dl hD => lc_tup (K := K) (a := p) (xs := ws) (fun i H' => LcAt K H Dl (((zs.take i).filter f).map dd) H')
    ⟨hD, same_upd hD, [], upd_same, .nil⟩ (fun i H' _ a => a.2.1.seqT hx) (fun i x H' hi a => ?_) (fun H' a => ?_)⟩
  · have hlt : i < zs.length := by rw [← hl]; exact (List.getElem?_eq_some_iff.mp hi).1
    have hz1 : zs[i]? = some zs[i] := List.getElem?_eq_getElem hlt
    have hl : (((zs.take i).filter f).map dd).length < 100000 := by
      rw [List.length_map]
      have h1 := List.length_filter_le f (zs.take i)
      rw [List.length_take] at h1
      omega
    refine turn i zs[i] x hz1 hi H' _ _ a.2.1 (fun y H4 e hf hd => ?_) (fun H4 e hf => ?_)
    · have := lcAt_more a e hd (im zs[i]) (fun d hd => by obtain ⟨q, _, rfl⟩ := List.mem_map.mp hd; exact im q) hl
      rw [take_more hz1, List.filter_append, List.map_append, List.filter_cons, if_pos hf]
      exact this
    · rw [take_more hz1, List.filter_append, List.map_append, List.filter_cons, if_neg (by rw [hf]; exact Bool.false_ne_true)]
      show LcAt K H Dl (_ ++ []) H4
      rw [List.append_nil]
      obtain ⟨a1, a2, acc, a3, a4⟩ := a
      exact ⟨a1, a2.trans e, acc, e _ _ a3, DpAll.same e _ _ a4⟩
  · obtain ⟨a1, a2, acc, a3, a4⟩ := a
    rw [hl, List.take_length] at a4
    exact done Dl H' acc a1 a2 a3 a4
theorem x_lcW {p : Addr} (zs : List α) (ws : List V) (f : α → Bool) (dd : α → PyData) (hx : SqL K H p ws) (hl : ws.length = zs.length) (hz : zs.length < 50000) (im : ∀ z, Im (dd z))
    (turn : ∀ (i : Nat) (z : α) (w : V), zs[i]? = some z → ws[i]? = some w → LcTurn K H g tt te σ vs w (f z) (dd z))
    (done : ∀ Dl H' acc, H Dl = none → Same H H' → H' Dl = some (.lst acc) → DpAll K H' acc ((zs.filter f).map dd) → Q (.ref Dl) H') :
    ∃ a, V.ref p = .ref a ∧ (∃ xs, SqL K H a xs) ∧ LcJ (Itl K a) g tt te vs σ H Q := by
  refine ⟨p, rfl, ⟨_, hx⟩, fun Dl hD => lc_list (K := K) (a := p) (xs := ws) (fun i H' => LcAt K H Dl (((zs.take i).filter f).map dd) H')
    ⟨hD, same_upd hD, [], upd_same, .nil⟩ (fun i H' _ a => a.2.1.seq hx) (fun i x H' hi a => ?_) (fun H' a => ?_)⟩
  · have hlt : i < zs.length := by rw [← hl]; exact (List.getElem?_eq_some_iff.mp hi).1
    have hz1 : zs[i]? = some zs[i] := List.getElem?_eq_getElem hlt
    have hl : (((zs.take i).filter f).map dd).length < 100000 := by
      rw [List.length_map]
      have h1 := List.length_filter_le f (zs.take i)
      rw [List.length_take] at h1
      omega
    refine turn i zs[i] x hz1 hi H' _ _ a.2.1 (fun y H4 e hf hd => ?_) (fun H4 e hf => ?_)
    · have := lcAt_more a e hd (im zs[i]) (fun d hd => by obtain ⟨q, _, rfl⟩ := List.mem_map.mp hd; exact im q) hl
      rw [take_more hz1, List.filter_append, List.map_append, List.filter_cons, if_pos hf]
      exact this
    · rw [take_more hz1, List.filter_append, List.map_append, List.filter_cons, if_neg (by rw [hf]; exact Bool.false_ne_true)]
      show LcAt K H Dl (_ ++ []) H4
      rw [List.append_nil]
      obtain ⟨a1, a2, acc, a3, a4⟩ := a
      exact ⟨a1, a2.trans e, acc, e _ _ a3, DpAll.same e _ _ a4⟩
  · obtain ⟨a1, a2, acc, a3, a4⟩ := a
    rw [hl, List.take_length] at a4
    exact done Dl H' acc a1 a2 a3 a4
theorem x_lcR1 {n : Int} (f : Nat → Bool) (dd : Nat → PyData) (hb : 0 ≤ n ∧ n < 50000) (im : ∀ z, Im (dd z))
    (turn : ∀ z : Nat, (z : Int) < n → LcTurn K H g tt te σ vs (.int z) (f z) (dd z))
    (done : ∀ Dl H' acc, H Dl = none → Same H H' → H' Dl = some (.lst acc) → DpAll K H' acc (((List.range n.toNat).filter f).map dd) → Q (.ref Dl) H') :
    ∃ j : Int, [V.int n] = [.int j] ∧ -(2 ^ 62) ≤ j ∧ j < 2 ^ 62 ∧ LcJ (Itr 0 j.toNat) g tt te vs σ H Q := by
  refine ⟨n, rfl, by omega, by omega, fun Dl hD => lc_range (lo := 0) (n := n.toNat) (fun i H' => LcAt K H Dl (((List.range i).filter f).map dd) H')
    ⟨hD, same_upd hD, [], upd_same, .nil⟩ (fun i H' hi a => ?_) (fun H' a => ?_)⟩
  · have hl : (((List.range i).filter f).map dd).length < 100000 := by
      rw [List.length_map]
      have h1 := List.length_filter_le f (List.range i)
      rw [List.length_range] at h1
      omega
    rw [Int.zero_add]
    refine turn i (by omega) H' _ _ a.2.1 (fun y H4 e hf hd => ?_) (fun H4 e hf => ?_)
    · have := lcAt_more a e hd (im i) (fun d hd => by obtain ⟨q, _, rfl⟩ := List.mem_map.mp hd; exact im q) hl
      rw [List.range_succ, List.filter_append, List.map_append, List.filter_cons, if_pos hf]
      exact this
    · rw [List.range_succ, List.filter_append, List.map_append, List.filter_cons, if_neg (by rw [hf]; exact Bool.false_ne_true)]
      show LcAt K H Dl (_ ++ []) H4
      rw [List.append_nil]
      obtain ⟨a1, a2, acc, a3, a4⟩ := a
      exact ⟨a1, a2.trans e, acc, e _ _ a3, DpAll.same e _ _ a4⟩
  · obtain ⟨a1, a2, acc, a3, a4⟩ := a
    exact done Dl H' acc a1 a2 a3 a4
/-- a comprehension's block ends where it began -/
theorem x_lcNo {k : Bool → Hp → Prop} {σ2 : L2.St} {A : Prop} (h1 : A) (h : k true H) : A ∧ tYes σ2 H k := ⟨h1, h⟩
end
/-! ### dicts from texts to ints -/
def dOf (m : List Pr) : List (Key × V) := m.map fun p => (Sum.inr p.1, V.int p.2)
def getP (m : List Pr) (x : Str) : Option Int := (m.find? fun p => decide (p.1 = x)).map (·.2)
def putP (m : List Pr) (x : Str) (v : Int) : List Pr := if (m.any fun p => decide (p.1 = x)) = true then m.map (fun p => if p.1 = x then (p.1, v) else p) else m ++ [(x, v)]
theorem dOf_keys (m : List Pr) : (dOf m).map (·.1) = (m.map (·.1)).map Sum.inr := by
  unfold dOf
  rw [List.map_map, List.map_map]
  rfl
theorem dOf_len (m : List Pr) : (dOf m).length = m.length := List.length_map _
theorem inr_dec (x y : Str) : decide ((Sum.inr x : Key) = Sum.inr y) = decide (x = y) := by
  by_cases e : x = y
  · subst e; simp
  · rw [decide_eq_false e, decide_eq_false (fun q => e (Sum.inr.inj q))]
theorem dOf_val (m : List Pr) (x : Str) : valV (dOf m) (Sum.inr x : Key) = (getP m x).map V.int := by
  unfold valV dOf getP
  rw [List.find?_map]
  have : ((fun kv : Key × V => decide (kv.1 = Sum.inr x)) ∘ fun p : Pr => ((Sum.inr p.1 : Key), V.int p.2)) = fun p : Pr => decide (p.1 = x) := by
    funext p
    exact inr_dec _ _
  rw [this, Option.map_map, Option.map_map]
  rfl
theorem dOf_put (m : List Pr) (x : Str) (v : Int) : putK (dOf m) (Sum.inr x : Key) (V.int v) = dOf (putP m x v) := by
  unfold putK putP dOf
  have : ((List.map (fun p : Pr => ((Sum.inr p.1 : Key), V.int p.2)) m).any fun kv => decide (kv.1 = Sum.inr x)) = m.any fun p => decide (p.1 = x) := by
    rw [List.any_map]
    congr 1
    funext p
    exact inr_dec _ _
  rw [this]
  split
  · rw [List.map_map, List.map_map]
    refine List.map_congr_left fun p _ => ?_
    show (if (Sum.inr p.1 : Key) = Sum.inr x then _ else _) = _
    by_cases e : p.1 = x
    · rw [if_pos (by rw [e])]
      show _ = (Sum.inr (if p.1 = x then (p.1, v) else p).1, V.int (if p.1 = x then (p.1, v) else p).2)
      rw [if_pos e]
    · rw [if_neg (fun q => e (Sum.inr.inj q))]
      show _ = (Sum.inr (if p.1 = x then (p.1, v) else p).1, V.int (if p.1 = x then (p.1, v) else p).2)
      rw [if_neg e]
  · rw [List.map_append]
    rfl
theorem getP_any (m : List Pr) (x : Str) : (m.any fun p => decide (p.1 = x)) = decide (x ∈ m.map (·.1)) := by
  rw [Bool.eq_iff_iff]
  simp only [List.any_eq_true, decide_eq_true_eq, List.mem_map]
  
theorem putP_names (m : List Pr) (x : Str) (v : Int) : (putP m x v).map (·.1) = if x ∈ m.map (·.1) then m.map (·.1) else m.map (·.1) ++ [x] := by
  unfold putP
  rw [getP_any]
  by_cases e : x ∈ m.map (·.1)
  · rw [if_pos (by simpa using e), if_pos e, List.map_map]
    refine List.map_congr_left fun p _ => ?_
    show (if p.1 = x then (p.1, v) else p).1 = p.1
    split <;> rfl
  · rw [if_neg (by simpa using e), if_neg e, List.map_append]
    rfl
theorem putP_nd {m : List Pr} {x : Str} {v : Int} (nd : (m.map (·.1)).Nodup) : ((putP m x v).map (·.1)).Nodup := by
  rw [putP_names]
  split
  · exact nd
  · rename_i h
    refine List.nodup_append.mpr ⟨nd, by simp, fun a ha b hb => ?_⟩
    simp at hb
    subst hb
    intro e
    subst e
    exact h ha
theorem putP_len (m : List Pr) (x : Str) (v : Int) : (putP m x v).length ≤ m.length + 1 := by
  have := congrArg List.length (putP_names m x v)
  rw [List.length_map] at this
  rw [this]
  split
  · rw [List.length_map]; omega
  · rw [List.length_append, List.length_map]; exact Nat.le_refl _
theorem getP_put (m : List Pr) (x y : Str) (v : Int) : getP (putP m x v) y = if y = x then some v else getP m y := by
  have h := valV_put (dOf m) (Sum.inr x : Key) (Sum.inr y) (V.int v)
  rw [dOf_put, dOf_val, dOf_val] at h
  by_cases e : y = x
  · rw [if_pos (by rw [e])] at h
    rw [if_pos e]
    cases q : getP (putP m x v) y with
    | none => rw [q] at h; cases h
    | some z => rw [q] at h; cases h; rfl
  · rw [if_neg (fun q => e (Sum.inr.inj q))] at h
    rw [if_neg e]
    cases q : getP (putP m x v) y with
    | none =>
      rw [q] at h
      cases q2 : getP m y with
      | none => rfl
      | some z => rw [q2] at h; cases h
    | some z =>
      rw [q] at h
      cases q2 : getP m y with
      | none => rw [q2] at h; cases h
      | some z2 => rw [q2] at h; cases h; rfl
theorem getP_some {m : List Pr} {x : Str} : (getP m x).isSome = decide (x ∈ m.map (·.1)) := by
  rw [← getP_any]
  unfold getP
  rw [Option.isSome_map]
  induction m with
  | nil => rfl
  | cons p m ih =>
    rw [List.find?_cons, List.any_cons]
    cases h : decide (p.1 = x) with
    | true => rfl
    | false => rw [Bool.false_or]; exact ih
section
variable {K : PySem.W.Frag} {σ : L2.St} {H : Hp} {td ty tx tv : TE} {Q : VK} {D : Ends} {u : TS}
theorem x_dput (h : tv σ H fun v H1 => td σ H1 fun x H2 => ty σ H2 fun y H3 => ∃ a H4, x = .ref a ∧ DPut H3 a y v H4 ∧ D.nx σ H4) : sDPut td ty tv D σ H := h
theorem x_sdput (h : tv σ H fun v H1 => td σ H1 fun x H2 => ty σ H2 fun y H3 => ∃ a H4, x = .ref a ∧ DPut H3 a y v H4 ∧ u D σ H4) : tSeq (sDPut td ty tv) u D σ H := h
theorem x_dget2 (h : td σ H fun x H1 => ∃ a, x = .ref a ∧ IsD H1 a ∧ ty σ H1 fun y H2 => tx σ H2 fun z H3 => ∃ o, DGet H3 a y o ∧ Q (o.getD z) H3) : tDGet2 td ty tx σ H Q := h
theorem x_dget (h : td σ H fun x H1 => ty σ H1 fun y H2 => ∃ a v, x = .ref a ∧ DGet H2 a y (some v) ∧ Q v H2) : tDGet td ty σ H Q := h
theorem x_dnew (h : ∀ p, H p = none → Q (.ref p) (upd H p (.dK []))) : tDNewK σ H Q := h
theorem x_din (h : ty σ H fun y H1 => td σ H1 fun x H2 => ∃ a o, x = .ref a ∧ DGet H2 a y o ∧ Q (.bl o.isSome) H2) : tDIn ty td σ H Q := h
theorem x_dnotin (h : ty σ H fun y H1 => td σ H1 fun x H2 => ∃ a o, x = .ref a ∧ DGet H2 a y o ∧ Q (.bl (!o.isSome)) H2) : tDNotIn ty td σ H Q := h
end
end XS
namespace XS
open PySem PySem.Spec PyProof.Rows L2
/-- the shares so far -/
structure Shares (ps m : List Pr) : Prop where
  nd : (m.map (·.1)).Nodup
  mem : ∀ x, x ∈ m.map (·.1) ↔ x ∈ ps.map (·.1)
  val : ∀ x, (getP m x).getD 0 = shr ps x
  len : m.length ≤ ps.length
theorem Shares.nil : Shares [] [] := ⟨List.nodup_nil, fun x => Iff.rfl, fun x => rfl, Nat.le_refl _⟩
theorem Shares.more {ps m : List Pr} {p : Pr} (S : Shares ps m) : Shares (ps ++ [p]) (putP m p.1 ((getP m p.1).getD 0 + p.2)) := by
  refine ⟨putP_nd S.nd, fun x => ?_, fun x => ?_, ?_⟩
  · rw [putP_names, List.map_append, List.mem_append, ← S.mem x]
    split
    · rename_i h
      constructor
      · exact .inl
      · rintro (h2 | h2)
        · exact h2
        · simp at h2
          subst h2
          exact h
    · rw [List.mem_append]
      rfl
  · rw [getP_put, shr_app, shr_cons, shr_nil, Int.add_zero]
    by_cases e : x = p.1
    · subst e
      rw [if_pos rfl, if_pos rfl, ← S.val]
      rfl
    · rw [if_neg e, if_neg (fun q => e q.symm), S.val, Int.add_zero]
  · have h1 := putP_len m p.1 ((getP m p.1).getD 0 + p.2)
    have h2 := S.len
    rw [List.length_append]
    show _ ≤ ps.length + 1
    omega
theorem Shares.keptOf {ps m : List Pr} {ys : List Str} (S : Shares ps m) (hp : ys.Perm (m.map (·.1))) (hs : sortedS ys = true) : Norm (kept ys (shr ps)) ∧ (∀ x, shr (kept ys (shr ps)) x = shr ps x) ∧ ∀ x ∈ (kept ys (shr ps)).map (·.1), x ∈ ps.map (·.1) := by
  have r : Rising ys := rising_of (hp.nodup_iff.mpr S.nd) hs
  refine ⟨kept_norm r, fun x => kept_shr r (fun y hy => shr_out fun h => hy (hp.mem_iff.mpr ((S.mem y).mpr h))) x, fun x hx => ?_⟩
  rw [kept_names] at hx
  exact (S.mem x).mp (hp.mem_iff.mp (List.mem_filter.mp hx).1)
end XS

namespace XS
open PySem PySem.Spec PyProof.Rows L2
/-- the built-in names are not hidden by the module -/
structure Bl (mg : Str → Option Value) : Prop where
  len : mg "len" = none
  isinstance : mg "isinstance" = none
  int : mg "int" = none
  str : mg "str" = none
  bool : mg "bool" = none
  list : mg "list" = none
  tuple : mg "tuple" = none
  dict : mg "dict" = none
  set : mg "set" = none
  range : mg "range" = none
  sorted : mg "sorted" = none
  sum : mg "sum" = none
/-- the script's cell, 0 behind its end -/
def cell (ns : List Int) (k : Int) : Int := if k < ns.length then ns.getD k.toNat 0 else 0
def sp_cell_at (K : PySem.W.Frag) : Sp := fun vs H Q _ => ∃ (a : Addr) (ns : List Int) (k : Int), vs = [.ref a, .int k] ∧ 0 ≤ k ∧ SqL K H a (ns.map V.int) ∧ Q (.int (cell ns k)) H
theorem atI_map {ns : List Int} {k : Int} (h0 : 0 ≤ k) (h : k < ns.length) : atI (ns.map V.int) k = some (.int (ns.getD k.toNat 0)) := by
  obtain ⟨j, rfl⟩ := Int.eq_ofNat_of_zero_le h0
  refine atI_nat ?_
  have hj : j < ns.length := by omega
  rw [List.getElem?_map, List.getElem?_eq_getElem hj]
  simp [List.getD, List.getElem?_eq_getElem hj]
end XS
namespace XS
open PySem PySem.Spec PyProof.Rows L2
section
variable {K : PySem.W.Frag} {H : Hp} {Q : VK} {x y : V}
theorem x_isi {a b : String} {r : Bool} (ty : TyX K H x (.type a)) (e : kitB a b = some r) (q : Q (.bl r) H) : rIsi K [x, .ty b] H Q := ⟨x, .ty b, .type a, .type b, r, rfl, .ty b, ty, kit_ty e, q⟩
theorem k_int_str : kitB "int" "str" = some false := by decide +kernel
theorem k_int_int : kitB "int" "int" = some true := by decide +kernel
theorem k_int_bool : kitB "int" "bool" = some false := by decide +kernel
theorem k_str_str : kitB "str" "str" = some true := by decide +kernel
theorem k_str_int : kitB "str" "int" = some false := by decide +kernel
theorem k_tup_str : kitB "tuple" "str" = some false := by decide +kernel
theorem k_tup_int : kitB "tuple" "int" = some false := by decide +kernel
theorem k_tup_tup : kitB "tuple" "tuple" = some true := by decide +kernel
theorem k_tup_lst : kitB "tuple" "list" = some false := by decide +kernel
theorem k_lst_str : kitB "list" "str" = some false := by decide +kernel
theorem k_lst_int : kitB "list" "int" = some false := by decide +kernel
theorem k_lst_tup : kitB "list" "tuple" = some false := by decide +kernel
theorem k_lst_lst : kitB "list" "list" = some true := by decide +kernel
theorem k_bool_bool : kitB "bool" "bool" = some true := by decide +kernel
theorem k_bool_int : kitB "bool" "int" = some true := by decide +kernel
theorem k_bool_str : kitB "bool" "str" = some false := by decide +kernel
theorem x_is_no {b : Bool} (hx : x ≠ .bl b) (q : Q (.bl false) H) : rIsC x (.bl b) H Q := ⟨b, rfl, by rw [decide_eq_false hx]; exact q⟩
theorem x_is_yes {b : Bool} (q : Q (.bl true) H) : rIsC (.bl b) (.bl b) H Q := ⟨b, rfl, by rw [decide_eq_true rfl]; exact q⟩
end
/-- the first item of a sequence of the kind that d tells, by its place -/
theorem atI_get {xs : List V} {i : Nat} {v : V} (h : xs[i]? = some v) : atI xs (i : Int) = some v := atI_nat h
/-- the numbers by a mix -/
def mixN (m : Int) : Int := (m * 48271 + 11) % 2147483647
theorem mixN_b (m : Int) : 0 ≤ mixN m ∧ mixN m < 2147483647 := ⟨Int.emod_nonneg _ (by decide), Int.emod_lt_of_pos _ (by decide)⟩
def bigTurn (s : Int × Int) : Int × Int := (s.1 * 10 + mixN s.2 / 7 % 10, mixN s.2)
def bigRun : Nat → Int × Int → Int × Int
  | 0, s => s
  | n + 1, s => bigTurn (bigRun n s)
def bigBy (c : Int) : Int := if 0 < c % 4 then c / 4 % 19 - 9 else (if c / 4 % 2 = 0 then 1 else -1) * (bigRun (1 + c / 8 % 60).toNat (0, c)).1
theorem bigRun_b (c : Int) : ∀ n, 0 ≤ (bigRun n (0, c)).1 ∧ (bigRun n (0, c)).1 < 10 ^ n
  | 0 => by
    show (0 : Int) ≤ 0 ∧ (0 : Int) < 10 ^ 0
    decide
  | n + 1 => by
    obtain ⟨h1, h2⟩ := bigRun_b c n
    show 0 ≤ (bigRun n (0, c)).1 * 10 + mixN (bigRun n (0, c)).2 / 7 % 10 ∧ (bigRun n (0, c)).1 * 10 + mixN (bigRun n (0, c)).2 / 7 % 10 < 10 ^ (n + 1)
    have h3 : 0 ≤ mixN (bigRun n (0, c)).2 / 7 % 10 := Int.emod_nonneg _ (by decide)
    have h4 : mixN (bigRun n (0, c)).2 / 7 % 10 < 10 := Int.emod_lt_of_pos _ (by decide)
    rw [Int.pow_succ]
    constructor <;> omega
theorem bigBy_b (c : Int) : (bigBy c).natAbs < 10 ^ 60 := by
  unfold bigBy
  split
  · have h3 : 0 ≤ c / 4 % 19 := Int.emod_nonneg _ (by decide)
    have h4 : c / 4 % 19 < 19 := Int.emod_lt_of_pos _ (by decide)
    have : (c / 4 % 19 - 9).natAbs < 20 := by omega
    exact Nat.lt_of_lt_of_le this (by decide)
  · have h3 : 0 ≤ c / 8 % 60 := Int.emod_nonneg _ (by decide)
    have h4 : c / 8 % 60 < 60 := Int.emod_lt_of_pos _ (by decide)
    obtain ⟨h1, h2⟩ := bigRun_b c (1 + c / 8 % 60).toNat
    have h5 : (10 : Int) ^ (1 + c / 8 % 60).toNat ≤ 10 ^ 60 := by
      have : (1 + c / 8 % 60).toNat ≤ 60 := by omega
      have h6 : (10 : Nat) ^ (1 + c / 8 % 60).toNat ≤ 10 ^ 60 := Nat.pow_le_pow_right (by decide) this
      exact_mod_cast h6
    have h7 : (bigRun (1 + c / 8 % 60).toNat (0, c)).1.natAbs < 10 ^ 60 := by omega
    split
    · rw [Int.one_mul]; exact h7
    · rw [Int.neg_one_mul, Int.natAbs_neg]; exact h7
def sp_whole : Sp := fun vs H Q _ => ∃ i : Int, vs = [.int i] ∧ Q (.bl true) H
def sp_big_by : Sp := fun vs H Q _ => ∃ c : Int, vs = [.int c] ∧ ∀ H', Same H H' → Q (.int (bigBy c)) H'
def sp_alike (n : Nat) (K : PySem.W.Frag) : Sp := fun vs H Q _ => ∃ (g e : V) (d : PyData) (k : Nat), vs = [g, e] ∧ n = k + 1 ∧ Dp K H g d ∧ Dp K H e d ∧ Al k d ∧ Q (.bl true) H
def sp_share (K : PySem.W.Frag) : Sp := fun vs H Q _ => ∃ (v : V) (s : Sm) (x : Str), vs = [v, .str x] ∧ Dp K H v (sumD s) ∧ (s.2.map (·.1)).Nodup ∧ Q (.int (shr s.2 x)) H
/-- made's: pairs in any order, fewer than 64 -/
def sp_made (K : PySem.W.Frag) : Sp := fun vs H Q _ => ∃ (n : Int) (v : V) (ps : List Pr), vs = [.int n, v] ∧ Dp K H v (.list (ps.map prT)) ∧ ps.length < 64 ∧
  ∀ t H' out, Same H H' → Norm out → (∀ x, shr out x = shr ps x) → (∀ x ∈ out.map (·.1), x ∈ ps.map (·.1)) → Dp K H' (.ref t) (sumD (n, out)) → Q (.ref t) H'
def sp_law (K : PySem.W.Frag) : Sp := fun vs H Q _ => ∃ (a : Addr) (ns : List Int), vs = [.ref a] ∧ SqL K H a (ns.map V.int) ∧ ns.length ≤ 63 ∧ ∀ H', Q (.bl true) H'
end XS

namespace XS
open PySem PySem.Spec PyProof.Rows L2
/-! ### the four names -/
/-- a text of codes -/
def tx (l : List Nat) : Str := ⟨l.toArray⟩
theorem tx_cps (l : List Nat) : (tx l).cps.toList = l := by simp [tx]
theorem tx_len (l : List Nat) : (tx l).length = l.length := by show l.toArray.size = l.length; simp
theorem tx_inj {a b : List Nat} (h : tx a = tx b) : a = b := by have := congrArg (fun s : Str => s.cps.toList) h; simpa [tx] using this
theorem tx_app (a b : List Nat) : tx a ++ tx b = tx (a ++ b) := by
  refine str_ext ?_
  show (a.toArray ++ b.toArray).toList = _
  simp [tx]
theorem tx_cut0 (l : List Nat) (k : Nat) : cutS (tx l) none (some (k : Int)) = tx (l.take k) := by
  refine str_ext ?_
  show (((tx l).cps.toList.drop _).take _).toArray.toList = _
  rw [tx_cps, tx_cps, tx_len, HT.sIx_none, HT.sIx_nat]
  simp
theorem tx_cut1 (l : List Nat) (k : Nat) : cutS (tx l) (some (k : Int)) none = tx (l.drop k) := by
  refine str_ext ?_
  show (((tx l).cps.toList.drop _).take _).toArray.toList = _
  rw [tx_cps, tx_cps, tx_len, HT.sIx_none, HT.sIx_nat]
  simp
  rcases Nat.le_total k l.length with h | h
  · rw [Nat.min_eq_left h, List.take_of_length_le (by rw [List.length_drop]; exact Nat.le_refl _)]
  · rw [Nat.min_eq_right h, List.drop_eq_nil_of_le h]
    simp
theorem tx_rep (l : List Nat) (n : Nat) : repS (tx l) n = tx (List.replicate n l).flatten := by
  unfold repS
  rw [tx_cps]
  rfl
def abc : Str := "abcdefghijklmnopqrstuvwxyz"
theorem abc_cps : abc.cps.toList = (List.range 26).map (97 + ·) := by decide +kernel
theorem abc_len : abc.length = 26 := by decide +kernel
/-- the code of the letter by a number -/
def lc (n : Int) : Nat := 97 + (n % 26).toNat
theorem lc_b (n : Int) : 97 ≤ lc n ∧ lc n ≤ 122 := by
  have h1 : 0 ≤ n % 26 := Int.emod_nonneg _ (by decide)
  have h2 : n % 26 < 26 := Int.emod_lt_of_pos _ (by decide)
  unfold lc
  omega
theorem abc_at (n : Int) : atI abc.cps.toList (n % 26) = some (lc n) := by
  have h1 : 0 ≤ n % 26 := Int.emod_nonneg _ (by decide)
  have h2 : n % 26 < 26 := Int.emod_lt_of_pos _ (by decide)
  unfold lc
  obtain ⟨j, hj⟩ := Int.eq_ofNat_of_zero_le h1
  rw [hj]
  refine atI_nat ?_
  rw [abc_cps, List.getElem?_map, List.getElem?_range (by omega)]
  simp
/-- small letters, 1 to 8 -/
def Word (l : List Nat) : Prop := 1 ≤ l.length ∧ l.length ≤ 8 ∧ ∀ c ∈ l, 97 ≤ c ∧ c ≤ 122
def wordRun (c : Int) : Nat → List Nat × Int
  | 0 => ([], c)
  | n + 1 => ((wordRun c n).1 ++ [lc (mixN (wordRun c n).2 / 7)], mixN (wordRun c n).2)
theorem wordRun_len (c : Int) : ∀ n, (wordRun c n).1.length = n
  | 0 => rfl
  | n + 1 => by
    show ((wordRun c n).1 ++ [_]).length = n + 1
    rw [List.length_append, wordRun_len c n]
    rfl
theorem wordRun_abc (c : Int) : ∀ n, ∀ x ∈ (wordRun c n).1, 97 ≤ x ∧ x ≤ 122
  | 0, _, h => by cases h
  | n + 1, x, h => by
    rcases List.mem_append.mp h with h | h
    · exact wordRun_abc c n x h
    · simp at h
      subst h
      exact lc_b _
def sizeBy (c : Int) : Nat := (1 + c % 8).toNat
theorem sizeBy_b (c : Int) : 1 ≤ sizeBy c ∧ sizeBy c ≤ 8 ∧ (sizeBy c : Int) = 1 + c % 8 := by
  have h1 : 0 ≤ c % 8 := Int.emod_nonneg _ (by decide)
  have h2 : c % 8 < 8 := Int.emod_lt_of_pos _ (by decide)
  unfold sizeBy
  omega
def wordBy (c : Int) : List Nat := (wordRun c (sizeBy c)).1
theorem wordBy_ok (c : Int) : Word (wordBy c) := by
  have h := sizeBy_b c
  refine ⟨?_, ?_, wordRun_abc c _⟩ <;> (unfold wordBy; rw [wordRun_len]; omega)
theorem wordBy_len (c : Int) : (wordBy c).length = sizeBy c := wordRun_len c _
/-- the usual names -/
def usual : List Str := ["new", "k", "t", "x", "y", "z", "step", "size", "bound", "some", "and", "above", "nought", "goes", "not", "or", "all", "far", "low", "high", "name", "newone", "number", "it", "lined"]
theorem usual_len : usual.length = 25 := rfl
theorem usual_nd : usual.Nodup := by decide +kernel
def wordB (l : List Nat) : Bool := decide (1 ≤ l.length) && decide (l.length ≤ 8) && l.all fun c => decide (97 ≤ c) && decide (c ≤ 122)
theorem word_of {l : List Nat} (h : wordB l = true) : Word l := by
  unfold wordB at h
  simp only [Bool.and_eq_true, decide_eq_true_eq, List.all_eq_true] at h
  exact ⟨h.1.1, h.1.2, h.2⟩
theorem usual_all : (usual.all fun s => wordB s.cps.toList) = true := by decide +kernel
theorem usual_ok {s : Str} (h : s ∈ usual) : Word s.cps.toList := word_of (List.all_eq_true.mp usual_all s h)
def offs : Nat → Int
  | 0 => 0 | 1 => 7 | 2 => 12 | _ => 18
def spotBy (c : Int) : Nat := (c / 24 % (1 + c % 8)).toNat
theorem spotBy_b (c : Int) : spotBy c < sizeBy c ∧ (spotBy c : Int) = c / 24 % (1 + c % 8) := by
  have h1 : 0 ≤ c % 8 := Int.emod_nonneg _ (by decide)
  have h3 : 0 ≤ c / 24 % (1 + c % 8) := Int.emod_nonneg _ (by omega)
  have h4 : c / 24 % (1 + c % 8) < 1 + c % 8 := Int.emod_lt_of_pos _ (by omega)
  unfold spotBy sizeBy
  omega
def nameBy (c : Int) (k : Nat) : Str :=
  if c / 8 % 3 = 2 then tx (List.replicate (1 + (k + c / 24) % 8).toNat ((wordBy c).take 1)).flatten
  else if c / 8 % 9 = 1 ∨ c / 8 % 9 = 4 ∨ c / 8 % 9 = 7 then usual.getD ((c / 72 + offs k) % 25).toNat ""
  else tx ((wordBy c).take (spotBy c) ++ [lc (c / 192 + 7 * k)] ++ (wordBy c).drop (spotBy c + 1))
def namesBy (c : Int) : List Str := (List.range 4).map (nameBy c)
theorem namesBy_eq (c : Int) : namesBy c = [nameBy c 0, nameBy c 1, nameBy c 2, nameBy c 3] := rfl
theorem namesBy_len (c : Int) : (namesBy c).length = 4 := rfl
theorem usualAt (c : Int) (k : Nat) : ((c / 72 + offs k) % 25).toNat < 25 := by
  have h1 : 0 ≤ (c / 72 + offs k) % 25 := Int.emod_nonneg _ (by decide)
  have h2 : (c / 72 + offs k) % 25 < 25 := Int.emod_lt_of_pos _ (by decide)
  omega
theorem take1_eq (c : Int) : ∃ a, (wordBy c).take 1 = [a] ∧ 97 ≤ a ∧ a ≤ 122 := by
  have h := wordBy_ok c
  cases e : wordBy c with
  | nil => have := h.1; rw [e] at this; simp at this
  | cons a r =>
    refine ⟨a, rfl, h.2.2 a (by rw [e]; exact List.mem_cons_self ..)⟩
theorem flat_one (n a : Nat) : (List.replicate n [a]).flatten = List.replicate n a := by
  induction n with
  | zero => rfl
  | succ n ih => rw [List.replicate_succ, List.flatten_cons, ih]; rfl
theorem nameBy_ok (c : Int) (k : Nat) : Word (nameBy c k).cps.toList := by
  unfold nameBy
  split
  · obtain ⟨a, e, ha⟩ := take1_eq c
    have h1 : 0 ≤ (k + c / 24) % 8 := Int.emod_nonneg _ (by decide)
    have h2 : (k + c / 24) % 8 < 8 := Int.emod_lt_of_pos _ (by decide)
    rw [tx_cps, e, flat_one]
    refine ⟨?_, ?_, fun x hx => ?_⟩
    · rw [List.length_replicate]; omega
    · rw [List.length_replicate]; omega
    · rw [(List.mem_replicate.mp hx).2]; exact ha
  · split
    · rw [List.getD_eq_getElem?_getD, List.getElem?_eq_getElem (by rw [usual_len]; exact usualAt c k)]
      exact usual_ok (List.getElem_mem _)
    · have h := wordBy_ok c
      have hs := spotBy_b c
      have hl := wordBy_len c
      have hz := sizeBy_b c
      rw [tx_cps]
      refine ⟨?_, ?_, fun x hx => ?_⟩
      · rw [List.length_append, List.length_append]; simp; omega
      · rw [List.length_append, List.length_append, List.length_take, List.length_drop]; simp; omega
      · rcases List.mem_append.mp hx with hx | hx
        · rcases List.mem_append.mp hx with hx | hx
          · exact h.2.2 x (List.mem_of_mem_take hx)
          · simp at hx; subst hx; exact lc_b _
        · exact h.2.2 x (List.mem_of_mem_drop hx)
theorem nd_inj {α : Type} {l : List α} (nd : l.Nodup) {i j : Nat} (hi : i < l.length) (hj : j < l.length) (e : l[i] = l[j]) : i = j := by
  rcases Nat.lt_trichotomy i j with h | h | h
  · exact absurd e (List.pairwise_iff_getElem.mp nd i j hi hj h)
  · exact h
  · exact absurd e.symm (List.pairwise_iff_getElem.mp nd j i hj hi h)
theorem nameBy_ne (c : Int) {j k : Nat} (hj : j < k) (hk : k < 4) : nameBy c j ≠ nameBy c k := by
  intro e
  unfold nameBy at e
  by_cases h1 : c / 8 % 3 = 2
  · rw [if_pos h1, if_pos h1] at e
    obtain ⟨a, ea, ha⟩ := take1_eq c
    rw [ea, flat_one, flat_one] at e
    have := congrArg List.length (tx_inj e)
    rw [List.length_replicate, List.length_replicate] at this
    omega
  · rw [if_neg h1, if_neg h1] at e
    by_cases h2 : c / 8 % 9 = 1 ∨ c / 8 % 9 = 4 ∨ c / 8 % 9 = 7
    · rw [if_pos h2, if_pos h2] at e
      have a1 := usualAt c j
      have a2 := usualAt c k
      rw [List.getD_eq_getElem?_getD, List.getD_eq_getElem?_getD, List.getElem?_eq_getElem (by rw [usual_len]; exact a1), List.getElem?_eq_getElem (by rw [usual_len]; exact a2)] at e
      have := nd_inj usual_nd _ _ e
      have h3 : k = 1 ∨ k = 2 ∨ k = 3 := by omega
      have h4 : j = 0 ∨ j = 1 ∨ j = 2 := by omega
      rcases h3 with rfl | rfl | rfl <;> rcases h4 with rfl | rfl | rfl <;> first | omega | (simp only [offs] at this; omega)
    · rw [if_neg h2, if_neg h2] at e
      have e := tx_inj e
      have hl : ((wordBy c).take (spotBy c)).length = ((wordBy c).take (spotBy c)).length := rfl
      rw [List.append_assoc, List.append_assoc] at e
      have := (List.append_inj e rfl).2
      simp only [List.cons_append, List.nil_append, List.cons.injEq] at this
      have h5 := this.1
      unfold lc at h5
      have b1 : 0 ≤ (c / 192 + 7 * (j : Int)) % 26 := Int.emod_nonneg _ (by decide)
      have b2 : 0 ≤ (c / 192 + 7 * (k : Int)) % 26 := Int.emod_nonneg _ (by decide)
      have h6 : (c / 192 + 7 * (j : Int)) % 26 = (c / 192 + 7 * (k : Int)) % 26 := by omega
      omega
theorem namesBy_nd (c : Int) : (namesBy c).Nodup := by
  rw [namesBy_eq]
  simp only [List.nodup_cons, List.mem_cons, List.not_mem_nil, or_false, not_or, not_false_eq_true, List.nodup_nil, and_true, true_and]
  refine ⟨⟨nameBy_ne c (by decide) (by decide), nameBy_ne c (by decide) (by decide), nameBy_ne c (by decide) (by decide)⟩, ⟨nameBy_ne c (by decide) (by decide), nameBy_ne c (by decide) (by decide)⟩, nameBy_ne c (by decide) (by decide)⟩
theorem namesBy_word {c : Int} {x : Str} (h : x ∈ namesBy c) : Word x.cps.toList := by
  unfold namesBy at h
  obtain ⟨k, _, rfl⟩ := List.mem_map.mp h
  exact nameBy_ok c k
def sp_names_by : Sp := fun vs H Q _ => ∃ c : Int, vs = [.int c] ∧ ∀ l H', H l = none → Same H H' → H' l = some (.lst ((namesBy c).map V.str)) → Q (.ref l) H'
theorem names_at {c n : Int} (h1 : 0 ≤ n) (h2 : n < 4) : ∃ x, atI ((namesBy c).map V.str) n = some (.str x) ∧ x ∈ namesBy c := by
  have h : n = 0 ∨ n = 1 ∨ n = 2 ∨ n = 3 := by omega
  rcases h with rfl | rfl | rfl | rfl
  · exact ⟨nameBy c 0, atI_get (i := 0) rfl, by rw [namesBy_eq]; simp⟩
  · exact ⟨nameBy c 1, atI_get (i := 1) rfl, by rw [namesBy_eq]; simp⟩
  · exact ⟨nameBy c 2, atI_get (i := 2) rfl, by rw [namesBy_eq]; simp⟩
  · exact ⟨nameBy c 3, atI_get (i := 3) rfl, by rw [namesBy_eq]; simp⟩
theorem im_pairs (ps : List Pr) : ∀ d ∈ ps.map prT, Im d := fun d hd => by
  obtain ⟨p, _, rfl⟩ := List.mem_map.mp hd
  exact im_pair p
theorem pair_at {K : PySem.W.Frag} {H : Hp} {us : List V} {ps : List Pr} {i : Nat} {p : Pr} {u : V} (d : DpAll K H us (ps.map prT)) (hp : ps[i]? = some p) (hu : us[i]? = some u) : Dp K H u (prT p) := by
  obtain ⟨u', h1, h2⟩ := d.get (i := i) (d := prT p) (by rw [List.getElem?_map, hp]; rfl)
  rw [hu] at h1
  cases h1
  exact h2
theorem range_getD {α : Type} (ys : List α) (d : α) : (List.range ys.length).map (fun k => ys.getD k d) = ys := by
  refine List.ext_getElem? fun i => ?_
  rw [List.getElem?_map]
  by_cases h : i < ys.length
  · rw [List.getElem?_range h, List.getElem?_eq_getElem h]
    show some (ys.getD i d) = _
    rw [List.getD_eq_getElem?_getD, List.getElem?_eq_getElem h]
    rfl
  · rw [List.getElem?_eq_none (by rw [List.length_range]; omega), List.getElem?_eq_none (by omega)]
    rfl
theorem range_pick {α β : Type} (ys : List α) (d : α) {n : Nat} (h : ys.length = n) (f : α → Bool) (g : α → β) : ((List.range n).filter fun k => f (ys.getD k d)).map (fun k => g (ys.getD k d)) = (ys.filter f).map g := by
  subst h
  conv => rhs; rw [← range_getD ys d]
  rw [List.filter_map, List.map_map]
  rfl
end XS

namespace XS
open PySem PySem.Spec PyProof.Rows L2
/-! ### the rules that name the written part, with it as a letter -/
section
variable {X : Cx} {e e2 l tg : Expr} {es : List Expr} {te tl ta to : TE} {t : TA} {p pos : Pos}
theorem ix_listK (K : PySem.W.Frag) (hK : X.K = K := by rfl) : IxR X (rIxL K) := by subst hK; exact ix_list
theorem ix_tupK (K : PySem.W.Frag) (hK : X.K = K := by rfl) : IxR X (rIxT K) := by subst hK; exact ix_tup
theorem ix_seqK (K : PySem.W.Frag) (hK : X.K = K := by rfl) : IxR X (rIx K) := by subst hK; exact ix_seq
theorem sl_listK (K : PySem.W.Frag) (hK : X.K = K := by rfl) : SlR X (rSlL K) := by subst hK; exact sl_list
theorem sl_tupK (K : PySem.W.Frag) (hK : X.K = K := by rfl) : SlR X (rSlA K) := by subst hK; exact sl_tupA
theorem pi_listK (K : PySem.W.Frag) (hl : PE X l tl) (hK : X.K = K := by rfl) : PI X tg l (iList K tl) := by subst hK; exact pi_list hl
theorem pi_tupK (K : PySem.W.Frag) (hl : PE X l tl) (hK : X.K = K := by rfl) : PI X tg l (iTup K tl) := by subst hK; exact pi_tup hl
theorem pg_tupK (K : PySem.W.Frag) {k n : Nat} {g : TGs} (hc : X.calm = true) (h : PGs X es g) (hK : X.K = K := by rfl)
    (hn : (assignEach es X.env).length = n := by rfl) (hst : (assignEach es X.env).findIdx? (·.1) = none := by rfl) : PG X (.Tuple es k pos) (gTup K n g) := by subst hK; exact pg_tup hc h hn hst
def rLenK (K : PySem.W.Frag) : List V → Hp → VK → Prop := fun xs H Q => ∃ p ys, xs = [.ref p] ∧ (SqL K H p ys ∨ SqT K H p ys) ∧ Q (.int ys.length) H
def rListK (K : PySem.W.Frag) : List V → Hp → VK → Prop := fun xs H Q => ∃ p ys, xs = [.ref p] ∧ (SqL K H p ys ∨ SqT K H p ys) ∧ ∀ l, H l = none → Q (.ref l) (upd H l (.lst ys))
theorem call_isiK (K : PySem.W.Frag) (hK : X.K = K := by rfl) : CallR X (.builtin "isinstance") (rIsi K) := by subst hK; exact call_isi
theorem cr_sumK (K : PySem.W.Frag) (hc : X.calm = true) (hK : X.K = K := by rfl) : CallR X (.builtin "sum") (rSum K) := by subst hK; exact cr_sum hc
theorem cr_sortedSK (K : PySem.W.Frag) (hK : X.K = K := by rfl) : CallR X (.builtin "sorted") (rSortedS K) := by subst hK; exact cr_sortedS
theorem call_lenK (K : PySem.W.Frag) (hK : X.K = K := by rfl) : CallR X (.builtin "len") (rLenK K) := by subst hK; exact call_len_seq
theorem call_listK (K : PySem.W.Frag) (hK : X.K = K := by rfl) : CallR X (.type "list") (rListK K) := by subst hK; exact call_list_of
theorem op_inK (K : PySem.W.Frag) (hK : X.K = K := by rfl) : OpR X (compareOp .In) (rIn K false) := by subst hK; exact op_in_seq
theorem op_notInK (K : PySem.W.Frag) (hK : X.K = K := by rfl) : OpR X (compareOp .NotIn) (rIn K true) := by subst hK; exact op_notIn_seq
theorem op_catK (K : PySem.W.Frag) (hK : X.K = K := by rfl) : OpR X (binaryOp .Add) (rCatA K) := by subst hK; exact op_catA
theorem op_repK (K : PySem.W.Frag) (hK : X.K = K := by rfl) : OpR X (binaryOp .Mult) (rRepT K) := by subst hK; exact op_repT
theorem pa_starK (K : PySem.W.Frag) (he : PE X e te) (hr : PA X es t) (hK : X.K = K := by rfl) (hs : starEach (.Starred e p :: es) X.env = (true, eval e X.env) :: starEach es X.env := by rfl) : PA X (.Starred e p :: es) (StX.tStar K te t) := by subst hK; exact StX.pa_star he hr hs
/-- tuple(xs) of a list or a tuple -/
def rTupK (K : PySem.W.Frag) : List V → Hp → VK → Prop := fun xs H Q => ∃ p ys, xs = [.ref p] ∧ ((SqL K H p ys ∧ ∀ l, H l = none → Q (.ref l) (upd H l (.tup ys))) ∨ (SqT K H p ys ∧ Q (.ref p) H))
theorem call_tupK (K : PySem.W.Frag) (hK : X.K = K := by rfl) : CallR X (.type "tuple") (rTupK K) := by subst hK; exact call_tuple_of
end
section
variable {K : PySem.W.Frag} {H : Hp} {Q : VK}
theorem x_lenL {p : Addr} {ys : List V} (h : SqL K H p ys) (q : Q (.int ys.length) H) : rLenK K [.ref p] H Q := ⟨p, ys, rfl, .inl h, q⟩
theorem x_lenT {p : Addr} {ys : List V} (h : SqT K H p ys) (q : Q (.int ys.length) H) : rLenK K [.ref p] H Q := ⟨p, ys, rfl, .inr h, q⟩
theorem x_listL {p : Addr} {ys : List V} (h : SqL K H p ys) (q : ∀ l H1, H l = none → Same H H1 → H1 l = some (.lst ys) → Q (.ref l) H1) : rListK K [.ref p] H Q := ⟨p, ys, rfl, .inl h, fun l hl => q l _ hl (same_upd hl) upd_same⟩
theorem x_tupL {p : Addr} {ys : List V} (h : SqL K H p ys) (q : ∀ l H1, H l = none → Same H H1 → H1 l = some (.tup ys) → Q (.ref l) H1) : rTupK K [.ref p] H Q := ⟨p, ys, rfl, .inl ⟨h, fun l hl => q l _ hl (same_upd hl) upd_same⟩⟩
theorem x_sum {p : Addr} {ns : List Int} (h : SqL K H p (ns.map V.int)) (q : Q (.int ns.sum) H) : rSum K [.ref p] H Q := ⟨p, ns, rfl, h, q⟩
theorem x_sortS {p : Addr} {xs : List Str} (h : SqL K H p (xs.map V.str)) (hz : xs.length < 64) (q : ∀ ys l H1, ys.Perm xs → sortedS ys = true → H l = none → Same H H1 → H1 l = some (.lst (ys.map V.str)) → Q (.ref l) H1) : rSortedS K [.ref p] H Q :=
  ⟨p, xs, rfl, h, hz, fun ys l h1 h2 h3 => q ys l _ h1 h2 h3 (same_upd h3) upd_same⟩
end
/-! ### data that == looks at -/
theorem plainAll {xs : List PyData} (h : ∀ d ∈ xs, d.plain = true) : PyData.plainAll xs = true := by
  induction xs with
  | nil => rfl
  | cons x xs ih =>
    have h1 := h x (List.mem_cons_self ..)
    have h2 := ih fun d hd => h d (List.mem_cons_of_mem _ hd)
    simp [PyData.plainAll, h1, h2]
theorem depthAll_le {xs : List PyData} {n : Nat} (h : ∀ d ∈ xs, d.depth ≤ n) : PyData.depthAll xs ≤ n := by
  induction xs with
  | nil => simp [PyData.depthAll]
  | cons x xs ih =>
    have h1 := h x (List.mem_cons_self ..)
    have h2 := ih fun d hd => h d (List.mem_cons_of_mem _ hd)
    simp only [PyData.depthAll]
    omega
/-- without dicts, at most 64 deep -/
structure Flt (d : PyData) : Prop where
  pl : d.plain = true
  dp : d.depth ≤ 64
theorem al_lay {n : Nat} {d : PyData} (h : Al n d) : d.plain = true ∧ d.depth ≤ n + 1 := by
  induction h with
  | int i => exact ⟨rfl, by simp [PyData.depth]⟩
  | str x => exact ⟨rfl, by simp [PyData.depth]⟩
  | tru => exact ⟨rfl, by simp [PyData.depth]⟩
  | non => exact ⟨rfl, by simp [PyData.depth]⟩
  | tup _ _ ih =>
    have h1 := plainAll fun d hd => (ih d hd).1
    have h2 := depthAll_le fun d hd => (ih d hd).2
    refine ⟨by simpa [PyData.plain] using h1, ?_⟩
    simp only [PyData.depth]
    omega
  | lst _ _ ih =>
    have h1 := plainAll fun d hd => (ih d hd).1
    have h2 := depthAll_le fun d hd => (ih d hd).2
    refine ⟨by simpa [PyData.plain] using h1, ?_⟩
    simp only [PyData.depth]
    omega
theorem al_flt {n : Nat} {d : PyData} (h : Al n d) (hn : n ≤ 60) : Flt d := ⟨(al_lay h).1, by have := (al_lay h).2; omega⟩
theorem al_pairs {n : Nat} {ps : List Pr} (h : ps.length ≤ 1000) : Al (n + 2) (.list (ps.map prT)) := .lst (fun d hd => by
  obtain ⟨p, _, rfl⟩ := List.mem_map.mp hd
  exact al_pair p) (by rw [List.length_map]; exact h)
def rEqP (K : PySem.W.Frag) : R2 := fun x y H Q => ∃ d e, Dp K H x d ∧ Dp K H y e ∧ Flt d ∧ Flt e ∧ Q (.bl (PyData.eqv d e)) H
def rNeP (K : PySem.W.Frag) : R2 := fun x y H Q => ∃ d e, Dp K H x d ∧ Dp K H y e ∧ Flt d ∧ Flt e ∧ Q (.bl (!PyData.eqv d e)) H
theorem op_eqK {X : Cx} (K : PySem.W.Frag) (hu : X.A.units + 64 < cLine) (hK : X.K = K := by rfl) : OpR X (compareOp .Eq) (rEqP K) := by
  subst hK
  intro pins s σ H x y v u Q I rx ry h
  obtain ⟨d, e, hd, he, sd, se, q⟩ := h
  obtain ⟨as, r1⟩ := Dp.reads I d x v hd rx
  obtain ⟨bs, r2⟩ := Dp.reads I e y u he ry
  exact SeqAt.eq_plain r1 r2 sd.pl se.pl (by have := sd.dp; have := se.dp; omega) ⟨.bl _, H, I, rfl, q⟩
theorem op_neK {X : Cx} (K : PySem.W.Frag) (hu : X.A.units + 64 < cLine) (hK : X.K = K := by rfl) : OpR X (compareOp .NotEq) (rNeP K) := by
  subst hK
  intro pins s σ H x y v u Q I rx ry h
  obtain ⟨d, e, hd, he, sd, se, q⟩ := h
  obtain ⟨as, r1⟩ := Dp.reads I d x v hd rx
  obtain ⟨bs, r2⟩ := Dp.reads I e y u he ry
  exact SeqAt.ne_plain r1 r2 sd.pl se.pl (by have := sd.dp; have := se.dp; omega) ⟨.bl _, H, I, rfl, q⟩
section
variable {K : PySem.W.Frag} {H : Hp} {Q : VK} {x y : V}
theorem x_eqD {d e : PyData} (h1 : Dp K H x d) (h2 : Dp K H y e) (a1 : Flt d) (a2 : Flt e) (q : Q (.bl (PyData.eqv d e)) H) : rEqP K x y H Q := ⟨d, e, h1, h2, a1, a2, q⟩
theorem x_neD {d e : PyData} (h1 : Dp K H x d) (h2 : Dp K H y e) (a1 : Flt d) (a2 : Flt e) (q : Q (.bl (!PyData.eqv d e)) H) : rNeP K x y H Q := ⟨d, e, h1, h2, a1, a2, q⟩
end
theorem flt_nil : Flt (.list []) := ⟨rfl, by simp [PyData.depth, PyData.depthAll]⟩
theorem x_cut {t u : TS} {D : Ends} {σ : L2.St} {H : Hp} (Mid : L2.St → Hp → Prop) (h1 : t { D with nx := Mid } σ H) (h2 : ∀ σ' H', Mid σ' H' → u D σ' H') : Evl.tCut t u D σ H := ⟨Mid, h1, h2⟩
theorem eqv_nil (ds : List PyData) : PyData.eqv (.list ds) (.list []) = ds.isEmpty := by
  cases ds <;> simp [PyData.eqv, PyData.eqvAll]
end XS

local macro_rules | `(tactic| walk_at "go1") => `(tactic| first
  | ((with_reducible refine' XS.x_var ?e ?_); (case e => exact rfl))
  | with_reducible refine XS.x_c ?_
  | with_reducible refine XS.x_op ?_
  | with_reducible refine XS.x_I0 ?_
  | with_reducible refine XS.x_gname ?_
  | with_reducible refine XS.x_sAsg ?_
  | with_reducible refine XS.x_cons ?_
  | with_reducible refine XS.x_nil ?_
  | with_reducible refine XS.x_k ?_
  | with_reducible refine XS.x_k2 ?_
  | with_reducible refine XS.x_ki ?_
  | with_reducible refine XS.x_eqI ?_
  | with_reducible refine XS.x_neI ?_
  | with_reducible refine XS.x_eqS ?_
  | with_reducible refine XS.x_neS ?_
  | with_reducible refine XS.x_test ?_
  | with_reducible refine XS.x_B ?_
  | with_reducible refine XS.x_sIf ?_
  | with_reducible refine XS.x_ret ?_
  | with_reducible refine XS.x_call ?_
  | with_reducible refine XS.x_cb ?_
  | with_reducible refine XS.x_tup ?_
  | with_reducible refine XS.x_lst ?_
  | with_reducible refine XS.x_T ?_
  | with_reducible refine XS.x_F ?_
  | with_reducible refine XS.x_Tn ?_
  | with_reducible refine XS.x_Fn ?_
  | with_reducible refine XS.x_nx ?_
  | with_reducible refine XS.x_rt ?_
  | with_reducible refine XS.x_bk ?_
  | ((with_reducible refine XS.x_I ?c ?_); (case c => first | decide | exact ⟨by decide, by decide⟩ | exact .inr ⟨by decide, by decide⟩ | exact .inl ⟨by decide, by decide⟩))
  | with_reducible refine XS.x_ct ?_
  | with_reducible refine XS.x_next ?_
  | with_reducible refine XS.x_sNext ?_
  | with_reducible refine XS.x_cont ?_
  | with_reducible refine XS.x_sDrop ?_
  | with_reducible refine XS.x_sSeq ?_
  | with_reducible refine XS.x_asg ?_
  | with_reducible refine XS.x_if ?_
  | with_reducible refine XS.x_drop ?_
  | with_reducible refine XS.x_and ?_
  | with_reducible refine XS.x_or ?_
  | with_reducible refine XS.x_not ?_
  | with_reducible refine XS.x_andV ?_
  | with_reducible refine XS.x_orV ?_
  | with_reducible refine XS.x_notV ?_
  | with_reducible refine XS.x_ifE ?_
  | with_reducible refine XS.x_un ?_
  | with_reducible refine XS.x_U ?_
  | with_reducible refine XS.x_sl ?_
  | with_reducible refine XS.x_part ?_
  | with_reducible refine XS.x_nopart ?_
  | with_reducible refine XS.x_bm ?_
  | with_reducible refine XS.x_bm0 ?_
  | with_reducible refine XS.x_sFor ?_
  | with_reducible refine XS.x_for ?_
  | with_reducible refine XS.x_iL ?_
  | with_reducible refine XS.x_iT ?_
  | with_reducible refine XS.x_iR1 ?_
  | with_reducible refine XS.x_iR2 ?_
  | with_reducible refine XS.x_gcons ?_
  | with_reducible refine XS.x_gnil ?_
  | with_reducible refine XS.x_lc ?_
  | with_reducible refine XS.x_tyes ?_
  | with_reducible refine XS.x_dput ?_
  | with_reducible refine XS.x_sdput ?_
  | with_reducible refine XS.x_dget2 ?_
  | with_reducible refine XS.x_dget ?_
  | with_reducible refine XS.x_dnew ?_
  | with_reducible refine XS.x_din ?_
  | with_reducible refine XS.x_dnotin ?_)
local macro_rules | `(tactic| walk_at "go") => `(tactic| repeat walk_at "go1")
namespace R1
open PySem PySem.Spec PyProof.Rows L2 XS
def topS (i : Nat) : Stmt := PySem.Challenge.pw_somenumber_k01_sum_made.main.body.getD i (.Pass ⟨0, 0, 0, 0⟩)
section
variable {P : Program} {w : World} {K : PySem.W.Frag} {mg : Str → Option Value} {base : Heap}

abbrev s__law_cell_at : Stmt := topS 4
abbrev N__law_cell_at : List Str := ["_law_script", "_law_k"]
abbrev P__law_cell_at : List Str := ["_law_script", "_law_k"]
theorem sc__law_cell_at : FnScope N__law_cell_at P__law_cell_at (defScope s__law_cell_at) := ⟨rfl, rfl, rfl, by decide +kernel, rfl, by decide +kernel, by decide +kernel⟩
theorem d__law_cell_at (F : FunAt K mg "_law_cell_at" s__law_cell_at P__law_cell_at) (Z : Bl mg) : DefAt P w K mg base CX0 1 "_law_cell_at" P__law_cell_at (sp_cell_at K) := by
  refine F.ok sc__law_cell_at (fun vs H Q E h => ?_) (fun f cdv A outer s H vs Q E hr h => ?_)
  · obtain ⟨a, ns, k, rfl, _⟩ := h
    rfl
  obtain ⟨a, ns, k, rfl, h0, hS, q⟩ := h
  refine ⟨_, (pss_cons (ps_if (pt_cmpR op_lt (pv 1) (pe_callB (call_lenK K) (by rfl) Z.len PySem.boot_len (pa_cons (pv 0) pa_nil)) (nomark _))
          (pss_one (ps_ret (pe_ix (ix_listK K) (pv 0) (pv 1) (fun _ _ => rfl)))) pss_nil)
        (pss_one (ps_ret pe_int))), ?_⟩
  walk_at "go"
  refine XS.x_lenL hS ?_
  walk_at "go"
  rw [List.length_map]
  refine XS.x_d (fun c => ?_) (fun c => ?_)
  · walk_at "go"
    refine XS.x_ixL hS (XS.atI_map h0 c) ?_
    unfold cell at q
    rw [if_pos c] at q
    exact q
  · walk_at "go"
    unfold cell at q
    rw [if_neg c] at q
    exact q

abbrev s__law_whole : Stmt := topS 5
abbrev N__law_whole : List Str := ["_law_got"]
abbrev P__law_whole : List Str := ["_law_got"]
theorem sc__law_whole : FnScope N__law_whole P__law_whole (defScope s__law_whole) := ⟨rfl, rfl, rfl, by decide +kernel, rfl, by decide +kernel, by decide +kernel⟩
theorem d__law_whole (F : FunAt K mg "_law_whole" s__law_whole P__law_whole) (Z : Bl mg) : DefAt P w K mg base CX0 1 "_law_whole" P__law_whole sp_whole := by
  refine F.ok sc__law_whole (fun vs H Q E h => ?_) (fun f cdv A outer s H vs Q E hr h => ?_)
  · obtain ⟨i, rfl, _⟩ := h
    rfl
  obtain ⟨i, rfl, q⟩ := h
  refine ⟨_, (pss_one (ps_ret (pe_and (pe_callB (call_isiK K) (by rfl) Z.isinstance (by decide +kernel) (pa_cons (pv 0) (pa_cons (pe_bltn (v := .ty "int") rfl Z.int (by decide +kernel) rfl) pa_nil))) (pe_one (pe_not (pe_callB (call_isiK K) (by rfl) Z.isinstance (by decide +kernel) (pa_cons (pv 0) (pa_cons (pe_bltn (v := .ty "bool") rfl Z.bool (by decide +kernel) rfl) pa_nil)))))))), ?_⟩
  walk_at "go"
  refine XS.x_isi (.base (.int i)) XS.k_int_int ?_
  walk_at "go"
  refine XS.x_isi (.base (.int i)) XS.k_int_bool ?_
  walk_at "go"
  exact q
abbrev s__law_big_by : Stmt := topS 7
abbrev N__law_big_by : List Str := ["_law_cell", "_law_number", "_law_mixed", "_law_k"]
abbrev P__law_big_by : List Str := ["_law_cell"]
theorem sc__law_big_by : FnScope N__law_big_by P__law_big_by (defScope s__law_big_by) := ⟨rfl, rfl, rfl, by decide +kernel, rfl, by decide +kernel, by decide +kernel⟩
theorem d__law_big_by (F : FunAt K mg "_law_big_by" s__law_big_by P__law_big_by) (Z : Bl mg) : DefAt P w K mg base CX0 1 "_law_big_by" P__law_big_by sp_big_by := by
  refine F.ok sc__law_big_by (fun vs H Q E h => ?_) (fun f cdv A outer s H vs Q E hr h => ?_)
  · obtain ⟨i, rfl, _⟩ := h
    rfl
  obtain ⟨c, rfl, q⟩ := h
  refine ⟨_, (pss_cons (ps_if (pt_cmpR op_gt (pe_op op_mod (pv 0) pe_int) pe_int (nomark _))
          (pss_one (ps_ret (pe_op op_sub (pe_op op_mod (pe_op op_fdiv (pv 0) pe_int) pe_int) pe_int))) pss_nil)
        (pss_cons (ps_set (i := 1) sc__law_big_by.nd rfl (Or.inl rfl) pe_int)
        (pss_cons (ps_set (i := 2) sc__law_big_by.nd rfl (Or.inl rfl) (pv 0))
        (pss_cons (ps_for PassesOwn.never rfl (pi_range1 rfl Z.range (pa_cons (pe_op op_add pe_int (pe_op op_mod (pe_op op_fdiv (pv 0) pe_int) pe_int)) pa_nil)) (pg_name (i := 3) sc__law_big_by.nd rfl (Or.inl rfl))
          (pss_cons (ps_set (i := 2) sc__law_big_by.nd rfl (Or.inl rfl) (pe_op op_mod (pe_op op_add (pe_op op_mul (pv 2) pe_int) pe_int) pe_int))
        (pss_one (ps_set (i := 1) sc__law_big_by.nd rfl (Or.inl rfl) (pe_op op_add (pe_op op_mul (pv 1) pe_int) (pe_op op_mod (pe_op op_fdiv (pv 2) pe_int) pe_int))))))
        (pss_one (ps_ret (pe_op op_mul (pe_ix (ix_listK K) (pe_lst (pa_cons pe_int (pa_cons (pe_un un_neg pe_int) pa_nil))) (pe_op op_mod (pe_op op_fdiv (pv 0) pe_int) pe_int) (fun _ _ => rfl)) (pv 1)))))))), ?_⟩
  walk_at "go"
  unfold bigBy at q
  refine XS.x_d (fun e => ?_) (fun e => ?_)
  · rw [if_pos e] at q
    walk_at "go"
    exact q _ (Same.refl _)
  · rw [if_neg e] at q
    walk_at "go"
    have h3 : 0 ≤ c / 8 % 60 := Int.emod_nonneg _ (by decide)
    have h4 : c / 8 % 60 < 60 := Int.emod_lt_of_pos _ (by decide)
    refine XS.x_forR1 (by omega) (fun i σ H' => ∃ y : Option V, σ = [some (.int c), some (.int (bigRun i (0, c)).1), some (.int (bigRun i (0, c)).2), y] ∧ H' = H) ⟨none, rfl, rfl⟩ ?_ ?_
    · rintro i σ H' hi ⟨y, rfl, rfl⟩
      walk_at "go"
      exact ⟨_, rfl, rfl⟩
    · rintro σ H' ⟨y, rfl, rfl⟩
      walk_at "go"
      refine ⟨(by show 2 ≤ sizeLine; decide), fun l hl => ?_⟩
      have e2 := XS.same_upd (o := .lst [.int 1, .int (-1)]) hl
      walk_at "go"
      have h5 : 0 ≤ c / 4 % 2 := Int.emod_nonneg _ (by decide)
      have h6 : c / 4 % 2 < 2 := Int.emod_lt_of_pos _ (by decide)
      by_cases z : c / 4 % 2 = 0
      · rw [if_pos z] at q
        rw [z]
        refine XS.x_ixL (SqL.of upd_same) (atI_get (i := 0) rfl) ?_
        walk_at "go"
        exact q _ e2
      · rw [if_neg z] at q
        rw [show c / 4 % 2 = 1 by omega]
        refine XS.x_ixL (SqL.of upd_same) (atI_get (i := 1) rfl) ?_
        walk_at "go"
        exact q _ e2

abbrev s__law_alike : Stmt := topS 8
abbrev N__law_alike : List Str := ["_law_got", "_law_due", "_law_k"]
abbrev P__law_alike : List Str := ["_law_got", "_law_due"]
theorem sc__law_alike : FnScope N__law_alike P__law_alike (defScope s__law_alike) := ⟨rfl, rfl, rfl, by decide +kernel, rfl, by decide +kernel, by decide +kernel⟩
theorem alike_step {n : Nat} (F : FunAt K mg "_law_alike" s__law_alike P__law_alike) (Z : Bl mg) (D__law_whole : DefAt P w K mg base CX0 1 "_law_whole" P__law_whole sp_whole)
    (D__law_alike : DefAt P w K mg base CX0 (n + 1) "_law_alike" P__law_alike (sp_alike n K)) : DefAt P w K mg base CX0 (n + 2) "_law_alike" P__law_alike (sp_alike (n + 1) K) := by
  refine F.ok sc__law_alike (fun vs H Q E h => ?_) (fun f cdv A outer s H vs Q E hr h => ?_)
  · obtain ⟨_, _, _, _, rfl, _⟩ := h
    rfl
  obtain ⟨g, e, d, k, rfl, hk, hg, he, al, q⟩ := h
  obtain rfl : k = n := by omega
  refine ⟨_, (pss_cons (ps_if (pt_cmpR op_isN (pv 1) pe_non (nomark _))
          (pss_one (ps_ret (pe_cmpR op_isN (pv 0) pe_non (nomark _)))) pss_nil)
        (pss_cons (ps_if (pt_cmpR op_isC (pv 1) pe_bl (nomark _))
          (pss_one (ps_ret (pe_cmpR op_isC (pv 0) pe_bl (nomark _)))) pss_nil)
        (pss_cons (ps_if (pt_val (pe_callB (call_isiK K) (by rfl) Z.isinstance (by decide +kernel) (pa_cons (pv 1) (pa_cons (pe_bltn (v := .ty "str") rfl Z.str (by decide +kernel) rfl) pa_nil))))
          (pss_one (ps_ret (pe_and (pe_callB (call_isiK K) (by rfl) Z.isinstance (by decide +kernel) (pa_cons (pv 0) (pa_cons (pe_bltn (v := .ty "str") rfl Z.str (by decide +kernel) rfl) pa_nil))) (pe_one (pe_cmpR op_eq (pv 0) (pv 1) (nomark _)))))) pss_nil)
        (pss_cons (ps_if (pt_val (pe_callB (call_isiK K) (by rfl) Z.isinstance (by decide +kernel) (pa_cons (pv 1) (pa_cons (pe_bltn (v := .ty "int") rfl Z.int (by decide +kernel) rfl) pa_nil))))
          (pss_one (ps_ret (pe_and (pe_callD D__law_whole (hr.mono (by first | exact Nat.le_refl _ | omega | decide)) rfl pass0 (pa_cons (pv 0) pa_nil)) (pe_one (pe_cmpR op_eq (pv 0) (pv 1) (nomark _)))))) pss_nil)
        (pss_cons (ps_if (PW.pt (pw_and (pt_val (pe_callB (call_isiK K) (by rfl) Z.isinstance (by decide +kernel) (pa_cons (pv 1) (pa_cons (pe_bltn (v := .ty "tuple") rfl Z.tuple (by decide +kernel) rfl) pa_nil)))) (pw_and1 (pt_not (pt_val (pe_callB (call_isiK K) (by rfl) Z.isinstance (by decide +kernel) (pa_cons (pv 0) (pa_cons (pe_bltn (v := .ty "tuple") rfl Z.tuple (by decide +kernel) rfl) pa_nil))))))))
          (pss_one (ps_ret pe_bl)) pss_nil)
        (pss_cons (ps_if (PW.pt (pw_and (pt_val (pe_callB (call_isiK K) (by rfl) Z.isinstance (by decide +kernel) (pa_cons (pv 1) (pa_cons (pe_bltn (v := .ty "list") rfl Z.list (by decide +kernel) rfl) pa_nil)))) (pw_and1 (pt_not (pt_val (pe_callB (call_isiK K) (by rfl) Z.isinstance (by decide +kernel) (pa_cons (pv 0) (pa_cons (pe_bltn (v := .ty "list") rfl Z.list (by decide +kernel) rfl) pa_nil))))))))
          (pss_one (ps_ret pe_bl)) pss_nil)
        (pss_cons (ps_if (pt_cmpR op_ne (pe_callB (call_lenK K) (by rfl) Z.len PySem.boot_len (pa_cons (pv 0) pa_nil)) (pe_callB (call_lenK K) (by rfl) Z.len PySem.boot_len (pa_cons (pv 1) pa_nil)) (nomark _))
          (pss_one (ps_ret pe_bl)) pss_nil)
        (pss_cons (ps_for PassesOwn.never rfl (pi_range1 rfl Z.range (pa_cons (pe_callB (call_lenK K) (by rfl) Z.len PySem.boot_len (pa_cons (pv 1) pa_nil)) pa_nil)) (pg_name (i := 2) sc__law_alike.nd rfl (Or.inl rfl))
          (pss_one (ps_if (pt_not (pt_val (pe_callD D__law_alike (hr.mono (by first | exact Nat.le_refl _ | omega | decide)) rfl pass0 (pa_cons (pe_ix (ix_seqK K) (pv 0) (pv 2) (fun _ _ => rfl)) (pa_cons (pe_ix (ix_seqK K) (pv 1) (pv 2) (fun _ _ => rfl)) pa_nil)))))
          (pss_one (ps_ret pe_bl)) pss_nil)))
        (pss_one (ps_ret pe_bl)))))))))), ?_⟩
  walk_at "go"
  refine ⟨rfl, ?_⟩
  walk_at "go"
  cases al with
  | non =>
    cases hg
    cases he
    refine XS.x_yes rfl ?_
    walk_at "go"
    exact ⟨rfl, q⟩
  | tru =>
    cases hg
    cases he
    refine XS.x_no rfl ?_
    walk_at "go"
    refine XS.x_is_yes ?_
    walk_at "go"
    exact XS.x_is_yes q
  | str x =>
    cases hg
    cases he
    refine XS.x_no rfl ?_
    walk_at "go"
    refine XS.x_is_no (by simp) ?_
    walk_at "go"
    refine XS.x_isi (.base (.str x)) XS.k_str_str ?_
    walk_at "go"
    refine XS.x_isi (.base (.str x)) XS.k_str_str ?_
    walk_at "go"
    rw [decide_eq_true rfl]
    exact q
  | int i =>
    cases hg
    cases he
    refine XS.x_no rfl ?_
    walk_at "go"
    refine XS.x_is_no (by simp) ?_
    walk_at "go"
    refine XS.x_isi (.base (.int i)) XS.k_int_str ?_
    walk_at "go"
    refine XS.x_isi (.base (.int i)) XS.k_int_int ?_
    walk_at "go"
    refine ⟨i, rfl, ?_⟩
    walk_at "go"
    rw [decide_eq_true rfl]
    exact q
  | tup hd hl =>
    cases hg with
    | tup hs ha =>
    cases he with
    | tup hs' ha' =>
    rename_i ds pg gs pe es
    have l1 := ha.len
    have l2 := ha'.len
    refine XS.x_no rfl ?_
    walk_at "go"
    refine XS.x_is_no (by simp) ?_
    walk_at "go"
    refine XS.x_isi (XS.tyx_T hs') XS.k_tup_str ?_
    walk_at "go"
    refine XS.x_isi (XS.tyx_T hs') XS.k_tup_int ?_
    walk_at "go"
    refine XS.x_isi (XS.tyx_T hs') XS.k_tup_tup ?_
    walk_at "go"
    refine XS.x_isi (XS.tyx_T hs) XS.k_tup_tup ?_
    walk_at "go"
    refine XS.x_isi (XS.tyx_T hs') XS.k_tup_lst ?_
    walk_at "go"
    refine XS.x_lenT hs ?_
    walk_at "go"
    refine XS.x_lenT hs' ?_
    walk_at "go"
    rw [show (gs.length : Int) = es.length by omega]
    refine XS.x_no (by simp) ?_
    walk_at "go"
    refine XS.x_lenT hs' ?_
    walk_at "go"
    refine XS.x_forR1 (by omega) (fun i σ H' => ∃ y : Option V, σ = [some (.ref pg), some (.ref pe), y] ∧ H' = H) ⟨none, rfl, rfl⟩ ?_ ?_
    · rintro i σ H' hi ⟨y, rfl, rfl⟩
      have hi' : i < ds.length := by omega
      obtain ⟨d, hdi⟩ : ∃ d, ds[i]? = some d := ⟨ds[i], List.getElem?_eq_getElem hi'⟩
      obtain ⟨u, hu1, hu2⟩ := ha.get hdi
      obtain ⟨u', hu1', hu2'⟩ := ha'.get hdi
      walk_at "go"
      refine .inr (.inl (XS.x_ixT hs (XS.atI_get hu1) ?_))
      walk_at "go"
      refine .inr (.inl (XS.x_ixT hs' (XS.atI_get hu1') ?_))
      walk_at "go"
      refine ⟨u, u', d, _, rfl, rfl, hu2, hu2', hd d (List.mem_of_getElem? hdi), ?_⟩
      walk_at "go"
      exact ⟨_, rfl, rfl⟩
    · rintro σ H' ⟨y, rfl, rfl⟩
      walk_at "go"
      exact q
  | lst hd hl =>
    cases hg with
    | lst hs ha =>
    cases he with
    | lst hs' ha' =>
    rename_i ds pg gs pe es
    have l1 := ha.len
    have l2 := ha'.len
    refine XS.x_no rfl ?_
    walk_at "go"
    refine XS.x_is_no (by simp) ?_
    walk_at "go"
    refine XS.x_isi (XS.tyx_L hs') XS.k_lst_str ?_
    walk_at "go"
    refine XS.x_isi (XS.tyx_L hs') XS.k_lst_int ?_
    walk_at "go"
    refine XS.x_isi (XS.tyx_L hs') XS.k_lst_tup ?_
    walk_at "go"
    refine XS.x_isi (XS.tyx_L hs') XS.k_lst_lst ?_
    walk_at "go"
    refine XS.x_isi (XS.tyx_L hs) XS.k_lst_lst ?_
    walk_at "go"
    refine XS.x_lenL hs ?_
    walk_at "go"
    refine XS.x_lenL hs' ?_
    walk_at "go"
    rw [show (gs.length : Int) = es.length by omega]
    refine XS.x_no (by simp) ?_
    walk_at "go"
    refine XS.x_lenL hs' ?_
    walk_at "go"
    refine XS.x_forR1 (by omega) (fun i σ H' => ∃ y : Option V, σ = [some (.ref pg), some (.ref pe), y] ∧ H' = H) ⟨none, rfl, rfl⟩ ?_ ?_
    · rintro i σ H' hi ⟨y, rfl, rfl⟩
      have hi' : i < ds.length := by omega
      obtain ⟨d, hdi⟩ : ∃ d, ds[i]? = some d := ⟨ds[i], List.getElem?_eq_getElem hi'⟩
      obtain ⟨u, hu1, hu2⟩ := ha.get hdi
      obtain ⟨u', hu1', hu2'⟩ := ha'.get hdi
      walk_at "go"
      refine .inl (XS.x_ixL hs (XS.atI_get hu1) ?_)
      walk_at "go"
      refine .inl (XS.x_ixL hs' (XS.atI_get hu1') ?_)
      walk_at "go"
      refine ⟨u, u', d, _, rfl, rfl, hu2, hu2', hd d (List.mem_of_getElem? hdi), ?_⟩
      walk_at "go"
      exact ⟨_, rfl, rfl⟩
    · rintro σ H' ⟨y, rfl, rfl⟩
      walk_at "go"
      exact q
theorem alike_all (F : FunAt K mg "_law_alike" s__law_alike P__law_alike) (Z : Bl mg) (D : DefAt P w K mg base CX0 1 "_law_whole" P__law_whole sp_whole) : ∀ n, DefAt P w K mg base CX0 (n + 1) "_law_alike" P__law_alike (sp_alike n K)
  | 0 => F.never fun vs H Q E h => by
    obtain ⟨_, _, _, k, _, hk, _⟩ := h
    omega
  | n + 1 => alike_step F Z D (alike_all F Z D n)

abbrev s_share : Stmt := topS 2
abbrev N_share : List Str := ["one", "name", "unknown", "many"]
abbrev P_share : List Str := ["one", "name"]
theorem sc_share : FnScope N_share P_share (defScope s_share) := ⟨rfl, rfl, rfl, by decide +kernel, rfl, by decide +kernel, by decide +kernel⟩
theorem d_share (F : FunAt K mg "share" s_share P_share) (Z : Bl mg) : DefAt P w K mg base CX0 1 "share" P_share (sp_share K) := by
  refine F.ok sc_share (fun vs H Q E h => ?_) (fun f cdv A outer s H vs Q E hr h => ?_)
  · obtain ⟨_, _, _, rfl, _⟩ := h
    rfl
  obtain ⟨v, sm, x, rfl, hd, nd, q⟩ := h
  obtain ⟨a, b, us, rfl, h1, h2, h3⟩ := hd.sum
  have hl := h3.len
  rw [List.length_map] at hl
  refine ⟨_, (pss_cons (ps_for PassesOwn.never rfl (pi_tupK K (pe_ix (ix_tupK K) (pv 0) pe_int (fun _ _ => rfl))) (pg_tupK K rfl (pgs_cons (pg_name (i := 2) sc_share.nd rfl (Or.inl rfl)) (pgs_cons (pg_name (i := 3) sc_share.nd rfl (Or.inl rfl)) pgs_nil)))
          (pss_one (ps_if (pt_cmpR op_eq (pv 2) (pv 1) (nomark _))
          (pss_one (ps_ret (pv 3))) pss_nil)))
        (pss_one (ps_ret pe_int))), ?_⟩
  walk_at "go"
  refine XS.x_ixT h1 (XS.atI_get (i := 1) rfl) ?_
  walk_at "go"
  refine XS.x_forT h2 (fun i σ H' => ∃ y2 y3 : Option V, σ = [some (.ref a), some (.str x), y2, y3] ∧ H' = H ∧ x ∉ (sm.2.take i).map (·.1)) ⟨none, none, rfl, rfl, by simp⟩ (fun i σ H' _ ⟨_, _, _, e, _⟩ => by rw [e]; exact h2) ?_ ?_
  · rintro i u σ H' hi ⟨y2, y3, rfl, rfl, hn⟩
    obtain ⟨d, hd1, hd2⟩ := h3.getV hi
    obtain ⟨p, hp, rfl⟩ := XS.map_at hd1
    obtain ⟨c, rfl, hc⟩ := hd2.pair
    refine XS.x_gtup hc rfl ?_
    walk_at "go"
    refine XS.x_d (fun e => ?_) (fun e => ?_)
    · walk_at "go"
      have := XS.shr_at nd (List.mem_of_getElem? hp)
      rw [e] at this
      rw [this] at q
      exact q
    · walk_at "go"
      refine ⟨_, _, rfl, rfl, ?_⟩
      rw [XS.take_more hp, List.map_append, List.mem_append]
      rintro (h | h)
      · exact hn h
      · simp at h
        exact e h.symm
  · rintro σ H' ⟨y2, y3, rfl, rfl, hn⟩
    walk_at "go"
    rw [hl, List.take_length] at hn
    rw [XS.shr_out hn] at q
    exact q

abbrev s_made : Stmt := topS 1
abbrev N_made : List Str := ["number", "pairs", "shares", "name", "many", "parts"]
abbrev P_made : List Str := ["number", "pairs"]
theorem sc_made : FnScope N_made P_made (defScope s_made) := ⟨rfl, rfl, rfl, by decide +kernel, rfl, by decide +kernel, by decide +kernel⟩
theorem d_made (F : FunAt K mg "made" s_made P_made) (Z : Bl mg) : DefAt P w K mg base CX0 1 "made" P_made (sp_made K) := by
  refine F.ok sc_made (fun vs H Q E h => ?_) (fun f cdv A outer s H vs Q E hr h => ?_)
  · obtain ⟨_, _, _, rfl, _⟩ := h
    rfl
  obtain ⟨n, v, ps, rfl, hd, h64, q⟩ := h
  have hu := hu_of hr
  cases hd with
  | lst hs ha =>
  rename_i a us
  have hl := ha.len
  rw [List.length_map] at hl
  refine ⟨_, (pss_cons (ps_set (i := 2) sc_made.nd rfl (Or.inr rfl) pe_dnewK)
        (pss_cons (ps_for PassesOwn.never rfl (pi_listK K (pv 1)) (pg_tupK K rfl (pgs_cons (pg_name (i := 3) sc_made.nd rfl (Or.inl rfl)) (pgs_cons (pg_name (i := 4) sc_made.nd rfl (Or.inl rfl)) pgs_nil)))
          (pss_one (ps_dput hu (pv 2) (pv 3) (pe_op op_add (pe_dget2 hu (pv 2) (pv 3) pe_int ⟨by rfl, by rfl, by rfl, by rfl⟩) (pv 4)) rfl)))
        (pss_cons (ps_setLc (i := 5) (own := [("name", 3)]) (by rfl) sc_made.nd rfl rfl (sw_true rfl rfl rfl (by decide +kernel)) (pi_listK K (pe_callB (call_sortedD rfl) (by rfl) Z.sorted (by decide +kernel) (pa_cons (pv 2) pa_nil))) (blkOk_by (own := [("name", 3)]) (N := N_made) (sc := defScope s_made) (by decide +kernel)) (fun _ _ _ _ _ => (pg_name (i := 3) sc_made.nd rfl (Or.inl rfl))) (fun _ _ _ _ _ => (pts_one (pt_cmpR op_ne (pe_dget hu (pv 2) (pv 3) (fun _ _ => rfl)) pe_int (nomark _)))) (fun _ _ _ _ _ => (pe_tup (pa_cons (pv 3) (pa_cons (pe_dget hu (pv 2) (pv 3) (fun _ _ => rfl)) pa_nil)))))
        (pss_one (ps_ret (pe_tup (pa_cons (pv 0) (pa_cons (pe_callTy (call_tupK K) (by rfl) Z.tuple (by decide +kernel) (pa_cons (pv 5) pa_nil)) pa_nil)))))))), ?_⟩
  walk_at "go"
  intro d hd0
  have e0 : Same H (upd H d (.dK [])) := XS.same_upd hd0
  walk_at "go"
  refine XS.x_forL (e0.seq hs) (fun i σ H' => ∃ (y3 y4 : Option V) (m : List Pr), σ = [some (.int n), some (.ref a), some (.ref d), y3, y4, none] ∧ Same H H' ∧ H' d = some (.dK (dOf m)) ∧ Shares (ps.take i) m) ⟨none, none, [], rfl, e0, upd_same, Shares.nil⟩ (fun i σ H' _ ⟨_, _, _, _, e, _⟩ => e.seq hs) ?_ ?_
  · rintro i u σ H' hi ⟨y3, y4, m, rfl, e1, hd1, S⟩
    obtain ⟨dp, hd2, hd3⟩ := ha.getV hi
    obtain ⟨p, hp, rfl⟩ := XS.map_at hd2
    obtain ⟨c, rfl, hc⟩ := hd3.pair
    refine XS.x_gtup (e1.seqT hc) rfl ?_
    walk_at "go"
    have hm : m.length < 64 := by
      have h1 := S.len
      rw [List.length_take] at h1
      omega
    have hval : ((getP m p.1).map V.int).getD (.int 0) = .int ((getP m p.1).getD 0) := by
      cases getP m p.1 <;> rfl
    refine ⟨d, rfl, .inl ⟨_, .inl hd1⟩, ?_⟩
    walk_at "go"
    refine ⟨_, DGet.k (k := Sum.inr p.1) hd1, ?_⟩
    rw [dOf_val, hval]
    walk_at "go"
    refine ⟨d, _, rfl, DPut.k (k := Sum.inr p.1) hd1 (szl (by rw [dOf_len]; omega)), ?_⟩
    rw [dOf_put]
    refine ⟨_, _, _, rfl, XS.same_mut e1 hd0, upd_same, ?_⟩
    rw [XS.take_more hp]
    exact S.more
  · rintro σ H' ⟨y3, y4, m, rfl, e1, hd1, S⟩
    rw [hl, List.take_length] at S
    walk_at "go"
    refine ⟨d, dOf m, m.map (·.1), rfl, .inl hd1, dOf_keys m, by rw [List.length_map]; have := S.len; omega, fun ys l hp hsort hl0 => ?_⟩
    have e2 : Same H' (upd H' l (.lst (ys.map V.str))) := XS.same_upd hl0
    have hys : ys.length = m.length := by rw [hp.length_eq, List.length_map]
    have hml := S.len
    refine XS.x_lcL ys V.str (fun x => decide (shr ps x ≠ 0)) (fun x => prT (x, shr ps x)) (SqL.of upd_same) (by omega) (fun _ => im_pair _) (fun z hz H2 Yes No e3 yes no => ?_) (fun Dl H2 acc hDl e3 hacc had => ?_)
    · have hd2 : H2 d = some (.dK (dOf m)) := e3 _ _ (e2 _ _ hd1)
      have hmem : z ∈ m.map (·.1) := hp.mem_iff.mp hz
      have hval : getP m z = some (shr ps z) := by
        have h1 := S.val z
        have h2 := getP_some (m := m) (x := z)
        rw [decide_eq_true hmem] at h2
        cases q1 : getP m z with
        | none => rw [q1] at h2; cases h2
        | some k => rw [q1] at h1; rw [← h1]; rfl
      have hget : DGet H2 d (kV (Sum.inr z)) (some (.int (shr ps z))) := by
        have := DGet.k (k := Sum.inr z) hd2
        rw [dOf_val, hval] at this
        exact this
      walk_at "go"
      refine ⟨rfl, ?_⟩
      walk_at "go"
      refine ⟨d, _, rfl, hget, ?_⟩
      walk_at "go"
      refine XS.x_dn (fun c => ?_) (fun c => ?_)
      · walk_at "go"
        refine ⟨d, _, rfl, hget, ?_⟩
        walk_at "go"
        refine XS.x_newT (XS.sz (by simp)) fun t H3 ht e4 h3 => ?_
        exact yes _ _ e4 (by simpa using c) (Dp.mkPair (p := (z, shr ps z)) (SqT.of h3))
      · walk_at "go"
        exact no _ (Same.refl _) (by simpa using c)
    · walk_at "go"
      refine XS.x_tupL (SqL.of hacc) fun t H3 ht e4 h3 => ?_
      walk_at "go"
      refine XS.x_newT (XS.sz (by simp)) fun t2 H4 ht2 e5 h4 => ?_
      walk_at "go"
      obtain ⟨k1, k2, k3⟩ := S.keptOf hp hsort
      have e6 := (((e1.trans e2).trans e3).trans e4).trans e5
      have had' : DpAll K H2 acc ((kept ys (shr ps)).map prT) := by
        unfold kept
        rw [List.map_map]
        exact had
      exact q t2 H4 (kept ys (shr ps)) e6 k1 k2 k3 (Dp.mkSum (s := (n, kept ys (shr ps))) (SqT.of h4) (SqT.of (e5 _ _ h3)) (DpAll.same (e4.trans e5) _ _ had'))

abbrev s__law_names_by : Stmt := topS 6
abbrev N__law_names_by : List Str := ["_law_cell", "_law_letters", "_law_size", "_law_word", "_law_number", "_law_k", "_law_spot", "_law_usual"]
abbrev P__law_names_by : List Str := ["_law_cell"]
theorem sc__law_names_by : FnScope N__law_names_by P__law_names_by (defScope s__law_names_by) := ⟨rfl, rfl, rfl, by decide +kernel, rfl, by decide +kernel, by decide +kernel⟩
theorem d__law_names_by (F : FunAt K mg "_law_names_by" s__law_names_by P__law_names_by) (Z : Bl mg) : DefAt P w K mg base CX0 1 "_law_names_by" P__law_names_by sp_names_by := by
  refine F.ok sc__law_names_by (fun vs H Q E h => ?_) (fun f cdv A outer s H vs Q E hr h => ?_)
  · obtain ⟨_, rfl, _⟩ := h
    rfl
  obtain ⟨c, rfl, q⟩ := h
  have hz := sizeBy_b c
  have hs := spotBy_b c
  have hl := wordBy_len c
  have hw := wordBy_ok c
  have end_ : ∀ (H2 : Hp), Same H H2 → ∀ Dl H' acc, H2 Dl = none → Same H2 H' → H' Dl = some (.lst acc) → DpAll K H' acc (((List.range (4 : Int).toNat).filter (fun _ => true)).map fun k => PyData.str (nameBy c k)) → Q (.ref Dl) H' := fun H2 e2 Dl H' acc h0 e h1 had => by
    have e3 : (((List.range (4 : Int).toNat).filter (fun _ => true)).map fun k => PyData.str (nameBy c k)) = (namesBy c).map PyData.str := rfl
    rw [e3] at had
    rw [had.strs] at h1
    exact q Dl H' (e2.free h0) (e2.trans e) h1
  refine ⟨_, (pss_cons (ps_set (i := 1) sc__law_names_by.nd rfl (Or.inr rfl) pe_str)
        (pss_cons (ps_set (i := 2) sc__law_names_by.nd rfl (Or.inl rfl) (pe_op op_add pe_int (pe_op op_mod (pv 0) pe_int)))
        (pss_cons (ps_set (i := 3) sc__law_names_by.nd rfl (Or.inr rfl) pe_str)
        (pss_cons (ps_set (i := 4) sc__law_names_by.nd rfl (Or.inl rfl) (pv 0))
        (pss_cons (ps_for PassesOwn.never rfl (pi_range1 rfl Z.range (pa_cons (pv 2) pa_nil)) (pg_name (i := 5) sc__law_names_by.nd rfl (Or.inl rfl))
          (pss_cons (ps_set (i := 4) sc__law_names_by.nd rfl (Or.inl rfl) (pe_op op_mod (pe_op op_add (pe_op op_mul (pv 4) pe_int) pe_int) pe_int))
        (pss_one (ps_set (i := 3) sc__law_names_by.nd rfl (Or.inr rfl) (pe_op op_add_str (pv 3) (pe_ix ix_str (pv 1) (pe_op op_mod (pe_op op_fdiv (pv 4) pe_int) pe_int) (fun _ _ => rfl)))))))
        (pss_cons (ps_if (pt_cmpR op_eq (pe_op op_mod (pe_op op_fdiv (pv 0) pe_int) pe_int) pe_int (nomark _))
          (pss_one (ps_ret (pe_lc (own := [("_law_k", 5)]) (by rfl) sc__law_names_by.nd (pi_range1 rfl Z.range (pa_cons pe_int pa_nil)) (blkOk_by (own := [("_law_k", 5)]) (N := N__law_names_by) (sc := defScope s__law_names_by) (by decide +kernel)) (fun _ _ _ _ _ => (pg_name (i := 5) sc__law_names_by.nd rfl (Or.inl rfl))) (fun _ _ _ _ _ => pts_nil) (fun _ _ _ _ _ => (pe_op op_repS (pe_slice sl_str (pv 3) po_none (po_some pe_int)) (pe_op op_add pe_int (pe_op op_mod (pe_op op_add (pv 5) (pe_op op_fdiv (pv 0) pe_int)) pe_int))))))) pss_nil)
        (pss_cons (ps_if (pt_cmpR (op_inK K) (pe_op op_mod (pe_op op_fdiv (pv 0) pe_int) pe_int) (pe_lst (pa_cons pe_int (pa_cons pe_int (pa_cons pe_int pa_nil)))) (by rfl))
          (pss_cons (ps_set (i := 7) sc__law_names_by.nd rfl (Or.inr rfl) (pe_lst (pa_cons pe_str (pa_cons pe_str (pa_cons pe_str (pa_cons pe_str (pa_cons pe_str (pa_cons pe_str (pa_cons pe_str (pa_cons pe_str (pa_cons pe_str (pa_cons pe_str (pa_cons pe_str (pa_cons pe_str (pa_cons pe_str (pa_cons pe_str pa_nil))))))))))))))))
        (pss_cons (ps_set (i := 7) sc__law_names_by.nd rfl (Or.inr rfl) (pe_op op_cat (pv 7) (pe_lst (pa_cons pe_str (pa_cons pe_str (pa_cons pe_str (pa_cons pe_str (pa_cons pe_str (pa_cons pe_str (pa_cons pe_str (pa_cons pe_str (pa_cons pe_str (pa_cons pe_str (pa_cons pe_str pa_nil))))))))))))))
        (pss_one (ps_ret (pe_lc (own := [("_law_k", 5)]) (by rfl) sc__law_names_by.nd (pi_range1 rfl Z.range (pa_cons pe_int pa_nil)) (blkOk_by (own := [("_law_k", 5)]) (N := N__law_names_by) (sc := defScope s__law_names_by) (by decide +kernel)) (fun _ _ _ _ _ => (pg_name (i := 5) sc__law_names_by.nd rfl (Or.inl rfl))) (fun _ _ _ _ _ => pts_nil) (fun _ _ _ _ _ => (pe_ix (ix_listK K) (pv 7) (pe_op op_mod (pe_op op_add (pe_op op_fdiv (pv 0) pe_int) (pe_ix (ix_listK K) (pe_lst (pa_cons pe_int (pa_cons pe_int (pa_cons pe_int (pa_cons pe_int pa_nil))))) (pv 5) (fun _ _ => rfl))) pe_int) (fun _ _ => rfl)))))))) pss_nil)
        (pss_cons (ps_set (i := 6) sc__law_names_by.nd rfl (Or.inr rfl) (pe_op op_modN (pe_op op_fdiv (pv 0) pe_int) (pv 2)))
        (pss_one (ps_ret (pe_lc (own := [("_law_k", 5)]) (by rfl) sc__law_names_by.nd (pi_range1 rfl Z.range (pa_cons pe_int pa_nil)) (blkOk_by (own := [("_law_k", 5)]) (N := N__law_names_by) (sc := defScope s__law_names_by) (by decide +kernel)) (fun _ _ _ _ _ => (pg_name (i := 5) sc__law_names_by.nd rfl (Or.inl rfl))) (fun _ _ _ _ _ => pts_nil) (fun _ _ _ _ _ => (pe_op op_add_str (pe_op op_add_str (pe_slice sl_str (pv 3) po_none (po_some (pv 6))) (pe_ix ix_str (pv 1) (pe_op op_mod (pe_op op_add (pe_op op_fdiv (pv 0) pe_int) (pe_op op_mul pe_int (pv 5))) pe_int) (fun _ _ => rfl))) (pe_slice sl_str (pv 3) (po_some (pe_op op_add (pv 6) pe_int)) po_none)))))))))))))), ?_⟩
  walk_at "go"
  refine XS.x_forR1 (by omega) (fun i σ H' => ∃ y5 : Option V, σ = [some (.int c), some (.str abc), some (.int (1 + c % 8)), some (.str (tx (wordRun c i).1)), some (.int (wordRun c i).2), y5, none, none] ∧ H' = H) ⟨none, rfl, rfl⟩ ?_ ?_
  · rintro i σ H' hi ⟨y5, rfl, rfl⟩
    walk_at "go"
    refine XS.x_ixS (by rw [abc_len]; exact XS.sz (by decide)) (abc_at _) ?_
    walk_at "go"
    refine ⟨_, _, rfl, rfl, ?_, ?_⟩
    · show (tx _).length + 1 ≤ sizeLine
      rw [tx_len, wordRun_len]
      exact XS.sz (by omega)
    · walk_at "go"
      refine ⟨some (.int i), ?_, rfl⟩
      show [_, _, _, some (V.str (tx (wordRun c i).1 ++ tx [lc (mixN (wordRun c i).2 / 7)])), _, _, _, _] = _
      rw [tx_app]
      rfl
  · rintro σ H' ⟨y5, rfl, rfl⟩
    have e0 : (wordRun c (1 + c % 8).toNat).1 = wordBy c := rfl
    rw [e0]
    have hsz : (tx (wordBy c)).length ≤ sizeLine := by rw [tx_len]; exact XS.sz (by omega)
    walk_at "go"
    refine XS.x_d (fun h1 => ?_) (fun h1 => ?_)
    · walk_at "go"
      refine XS.x_lcR1 (fun _ => true) (fun k => PyData.str (nameBy c k)) ⟨by decide, by decide⟩ (fun _ => .str _) (fun z hz H' Yes No e yes no => ?_) (end_ _ (Same.refl _))
      walk_at "go"
      refine ⟨rfl, ?_⟩
      walk_at "go"
      refine ⟨_, rfl, hsz, ?_⟩
      walk_at "go"
      have h2 : 0 ≤ (z + c / 24) % 8 := Int.emod_nonneg _ (by decide)
      have h3 : (z + c / 24) % 8 < 8 := Int.emod_lt_of_pos _ (by decide)
      refine ⟨_, _, rfl, rfl, by omega, by omega, Nat.le_trans (cutS_length _ _ _) (by rw [tx_len]; omega), ?_⟩
      have e1 : repS (cutS (tx (wordBy c)) none (some 1)) (1 + (z + c / 24) % 8).toNat = nameBy c z := by
        unfold nameBy
        rw [if_pos h1]
        have := tx_cut0 (wordBy c) 1
        rw [show ((1 : Nat) : Int) = 1 from rfl] at this
        rw [this, tx_rep]
      refine yes _ _ (Same.refl _) rfl ?_
      rw [e1]
      exact .str _
    · walk_at "go"
      refine ⟨XS.sz (by simp), fun p1 hp1 => ?_⟩
      obtain ⟨e1, h3⟩ := XS.newly (o := HO.lst _) hp1
      generalize hH1 : upd _ p1 _ = H1 at e1 h3 ⊢
      walk_at "go"
      refine ⟨p1, _, rfl, .inl (SqL.of h3), rfl, rfl, ?_⟩
      walk_at "go"
      have hin : (if false = true then !inV (V.int (c / 8 % 9)) [V.int 1, V.int 4, V.int 7] else inV (V.int (c / 8 % 9)) [V.int 1, V.int 4, V.int 7]) = decide (c / 8 % 9 = 1 ∨ c / 8 % 9 = 4 ∨ c / 8 % 9 = 7) := by
        rw [if_neg Bool.false_ne_true, Bool.eq_iff_iff]
        simp [inV, eqV]
        omega
      rw [hin]
      refine XS.x_d (fun h2 => ?_) (fun h2 => ?_)
      · walk_at "go"
        refine ⟨XS.sz (by simp), fun p2 hp2 => ?_⟩
        obtain ⟨e2, h4⟩ := XS.newly (o := HO.lst _) hp2
        generalize hH2 : upd _ p2 _ = H2 at e2 h4 ⊢
        walk_at "go"
        refine ⟨XS.sz (by simp), fun p3 hp3 => ?_⟩
        obtain ⟨e3, h5⟩ := XS.newly (o := HO.lst _) hp3
        generalize hH3 : upd _ p3 _ = H3 at e3 h5 ⊢
        walk_at "go"
        refine ⟨p2, p3, _, _, rfl, rfl, e3 _ _ h4, h5, XS.sz (by show 14 + 11 ≤ 100000; decide), fun p4 hp4 => ?_⟩
        have e4 := XS.same_upd (o := .lst (usual.map V.str)) hp4
        walk_at "go"
        refine XS.x_lcR1 (fun _ => true) (fun k => PyData.str (nameBy c k)) ⟨by decide, by decide⟩ (fun _ => .str _) (fun z hz H' Yes No e yes no => ?_) (end_ _ (((e1.trans e2).trans e3).trans e4))
        walk_at "go"
        refine ⟨rfl, ?_⟩
        walk_at "go"
        refine ⟨XS.sz (by simp), fun p5 hp5 => ?_⟩
        obtain ⟨e5, h7⟩ := XS.newly (o := HO.lst _) hp5
        generalize hH5 : upd _ p5 _ = H5 at e5 h7 ⊢
        walk_at "go"
        have hoff : atI [V.int 0, V.int 7, V.int 12, V.int 18] (z : Int) = some (.int (offs z)) := by
          have hz' : z = 0 ∨ z = 1 ∨ z = 2 ∨ z = 3 := by omega
          rcases hz' with rfl | rfl | rfl | rfl <;> exact atI_nat rfl
        refine XS.x_ixL (SqL.of h7) hoff ?_
        walk_at "go"
        have hu := usualAt c z
        have h8 : 0 ≤ (c / 72 + offs z) % 25 := Int.emod_nonneg _ (by decide)
        obtain ⟨j, hj⟩ := Int.eq_ofNat_of_zero_le h8
        have hus : atI (usual.map V.str) ((c / 72 + offs z) % 25) = some (.str (nameBy c z)) := by
          unfold nameBy
          rw [if_neg h1, if_pos h2, hj]
          rw [hj] at hu
          refine atI_nat ?_
          have hu' : j < usual.length := hu
          rw [List.getElem?_map, List.getD_eq_getElem?_getD]
          show (usual[j]?).map V.str = some (.str ((usual[j]?).getD ""))
          rw [List.getElem?_eq_getElem hu']
          rfl
        refine XS.x_ixL (SqL.of (e5 _ _ (e _ _ upd_same))) hus ?_
        exact yes _ _ e5 rfl (.str _)
      · walk_at "go"
        have hmod : (c / 24).fmod (1 + c % 8) = spotBy c := by rw [Int.fmod_eq_emod_of_nonneg _ (by omega)]; exact hs.2.symm
        refine XS.x_I (by omega) ?_
        rw [hmod]
        walk_at "go"
        refine XS.x_lcR1 (fun _ => true) (fun k => PyData.str (nameBy c k)) ⟨by decide, by decide⟩ (fun _ => .str _) (fun z hz H' Yes No e yes no => ?_) (end_ _ e1)
        walk_at "go"
        refine ⟨rfl, ?_⟩
        walk_at "go"
        refine ⟨_, rfl, hsz, ?_⟩
        rw [tx_cut0]
        walk_at "go"
        refine XS.x_ixS (by rw [abc_len]; exact XS.sz (by decide)) (abc_at _) ?_
        walk_at "go"
        have hcut : ((wordBy c).take (spotBy c)).length ≤ 8 := by rw [List.length_take]; omega
        refine ⟨_, _, rfl, rfl, ?_, ?_⟩
        · show (tx _).length + 1 ≤ sizeLine
          rw [tx_len]
          exact XS.sz (by omega)
        walk_at "go"
        refine ⟨_, rfl, hsz, ?_⟩
        have e7 : (spotBy c : Int) + 1 = ((spotBy c + 1 : Nat) : Int) := rfl
        rw [e7, tx_cut1]
        walk_at "go"
        have e9 : tx ((wordBy c).take (spotBy c)) ++ (⟨#[lc (c / 192 + 7 * z)]⟩ : Str) = tx ((wordBy c).take (spotBy c) ++ [lc (c / 192 + 7 * z)]) := tx_app _ [_]
        rw [e9]
        refine ⟨_, _, rfl, rfl, ?_, ?_⟩
        · rw [tx_len, tx_len, List.length_append, List.length_drop]
          exact XS.sz (by simp; omega)
        rw [tx_app]
        refine yes _ _ (Same.refl _) rfl ?_
        have e10 : nameBy c z = tx ((wordBy c).take (spotBy c) ++ [lc (c / 192 + 7 * z)] ++ (wordBy c).drop (spotBy c + 1)) := by
          unfold nameBy
          rw [if_neg h1, if_neg h2]
        rw [e10]
        exact .str _

abbrev s_law : Stmt := topS 9
abbrev N_law : List Str := ["_law_script", "_law_names", "_law_number", "_law_pairs", "_law_k", "_law_handed", "_law_one", "_law_shares", "_law_due", "_law_cell", "_law_name", "_law_pair"]
abbrev P_law : List Str := ["_law_script"]
theorem sc_law : FnScope N_law P_law (defScope s_law) := ⟨rfl, rfl, rfl, by decide +kernel, rfl, by decide +kernel, by decide +kernel⟩
theorem d_law {fl : Addr} {fdl : FuncData} (F : Fun K "law" "law" s_law fl fdl) (Z : Bl mg) (D__law_cell_at : DefAt P w K mg base CX0 1 "_law_cell_at" P__law_cell_at (sp_cell_at K)) (D__law_names_by : DefAt P w K mg base CX0 1 "_law_names_by" P__law_names_by sp_names_by)
    (D__law_big_by : DefAt P w K mg base CX0 1 "_law_big_by" P__law_big_by sp_big_by) (D__law_alike : DefAt P w K mg base CX0 9 "_law_alike" P__law_alike (sp_alike 8 K)) (D_made : DefAt P w K mg base CX0 1 "made" P_made (sp_made K))
    (D_share : DefAt P w K mg base CX0 1 "share" P_share (sp_share K)) : FnOk P w K mg base CX0 10 fl fdl P_law (sp_law K) := by
  refine F.ok sc_law (fun vs H Q E h => ?_) (fun cdv A outer s H vs Q E hr h => ?_)
  · obtain ⟨_, _, rfl, _⟩ := h
    rfl
  obtain ⟨a, ns, rfl, hS, h63, q⟩ := h
  refine ⟨_, (pss_cons (ps_set (i := 1) sc_law.nd rfl (Or.inr rfl) (pe_callD D__law_names_by (hr.mono (by first | exact Nat.le_refl _ | omega | decide)) rfl pass0 (pa_cons (pe_callD D__law_cell_at (hr.mono (by first | exact Nat.le_refl _ | omega | decide)) rfl pass0 (pa_cons (pv 0) (pa_cons pe_int pa_nil))) pa_nil)))
        (pss_cons (ps_set (i := 2) sc_law.nd rfl (Or.inl rfl) (pe_callD D__law_big_by (hr.mono (by first | exact Nat.le_refl _ | omega | decide)) rfl pass0 (pa_cons (pe_callD D__law_cell_at (hr.mono (by first | exact Nat.le_refl _ | omega | decide)) rfl pass0 (pa_cons (pv 0) (pa_cons pe_int pa_nil))) pa_nil)))
        (pss_cons (ps_set (i := 3) sc_law.nd rfl (Or.inr rfl) (pe_lst pa_nil))
        (pss_cons (ps_for PassesOwn.never rfl (pi_range1 rfl Z.range (pa_cons (pe_op op_mod (pe_callD D__law_cell_at (hr.mono (by first | exact Nat.le_refl _ | omega | decide)) rfl pass0 (pa_cons (pv 0) (pa_cons pe_int pa_nil))) pe_int) pa_nil)) (pg_name (i := 4) sc_law.nd rfl (Or.inl rfl))
          (pss_cons (ps_set (i := 9) sc_law.nd rfl (Or.inl rfl) (pe_op op_add (pe_callD D__law_cell_at (hr.mono (by first | exact Nat.le_refl _ | omega | decide)) rfl pass0 (pa_cons (pv 0) (pa_cons (pe_op op_add pe_int (pv 4)) pa_nil))) (pe_op op_mul pe_int (pv 4))))
        (pss_one (ps_expr (pe_bm PySem.F.plainAttrs_list PySem.F.slot_list_append PySem.F.type_list_append mt_append (pv 3) (pa_cons (pe_tup (pa_cons (pe_ix (ix_listK K) (pv 1) (pe_op op_mod (pv 9) pe_int) (fun _ _ => rfl)) (pa_cons (pe_callD D__law_big_by (hr.mono (by first | exact Nat.le_refl _ | omega | decide)) rfl pass0 (pa_cons (pe_op op_fdiv (pv 9) pe_int) pa_nil)) pa_nil))) pa_nil))))))
        (Evl.pss_cut (ps_if (PW.pt (pw_and (pt_cmpR op_eq (pe_op op_mod (pe_op op_fdiv (pe_callD D__law_cell_at (hr.mono (by first | exact Nat.le_refl _ | omega | decide)) rfl pass0 (pa_cons (pv 0) (pa_cons pe_int pa_nil))) pe_int) pe_int) pe_int (nomark _)) (pw_and1 (pt_cmpR (op_neK K hr.units) (pv 3) (pe_lst pa_nil) (nomark _)))))
          (pss_one (ps_expr (pe_bm PySem.F.plainAttrs_list PySem.F.slot_list_append PySem.F.type_list_append mt_append (pv 3) (pa_cons (pe_tup (pa_cons (pe_ix (ix_tupK K) (pe_ix (ix_listK K) (pv 3) pe_int (fun _ _ => rfl)) pe_int (fun _ _ => rfl)) (pa_cons (pe_op op_sub pe_int (pe_ix (ix_tupK K) (pe_ix (ix_listK K) (pv 3) pe_int (fun _ _ => rfl)) pe_int (fun _ _ => rfl))) pa_nil))) pa_nil)))) pss_nil)
        (pss_cons (ps_set (i := 5) sc_law.nd rfl (Or.inl rfl) (pe_callTy (call_listK K) (by rfl) Z.list (by decide +kernel) (pa_cons (pv 3) pa_nil)))
        (pss_cons (ps_set (i := 6) sc_law.nd rfl (Or.inl rfl) (pe_callD D_made (hr.mono (by first | exact Nat.le_refl _ | omega | decide)) rfl pass0 (pa_cons (pv 2) (pa_cons (pv 5) pa_nil))))
        (pss_cons (ps_set (i := 7) sc_law.nd rfl (Or.inr rfl) (pe_lc (own := [("_law_name", 10)]) (by rfl) sc_law.nd (pi_listK K (pe_callB (cr_sortedSK K) (by rfl) Z.sorted (by decide +kernel) (pa_cons (pv 1) pa_nil))) (blkOk_by (own := [("_law_name", 10)]) (N := N_law) (sc := defScope s_law) (by decide +kernel)) (fun _ _ _ _ _ => (pg_name (i := 10) sc_law.nd rfl (Or.inr rfl))) (fun _ _ _ _ _ => pts_nil) (fun _ _ _ _ _ => (pe_callB (cr_sumK K rfl) (by rfl) Z.sum (by decide +kernel) (pa_cons (pe_lc (own := [("_law_pair", 11)]) (by rfl) sc_law.nd (pi_listK K (pv 3)) (blkOk_by (own := [("_law_pair", 11)]) (N := N_law) (sc := relS _ (defScope s_law)) (by decide +kernel)) (fun _ _ _ _ _ => (pg_name (i := 11) sc_law.nd rfl (Or.inl rfl))) (fun _ _ _ _ _ => (pts_one (pt_cmpR op_eq (pe_ix (ix_tupK K) (pv 11) pe_int (fun _ _ => rfl)) (pv 10) (nomark _)))) (fun _ _ _ _ _ => (pe_ix (ix_tupK K) (pv 11) pe_int (fun _ _ => rfl)))) pa_nil)))))
        (pss_cons (ps_set (i := 8) sc_law.nd rfl (Or.inl rfl) (pe_callTy (call_tupK K) (by rfl) Z.tuple (by decide +kernel) (pa_cons (pe_lc (own := [("_law_k", 4)]) (by rfl) sc_law.nd (pi_range1 rfl Z.range (pa_cons pe_int pa_nil)) (blkOk_by (own := [("_law_k", 4)]) (N := N_law) (sc := defScope s_law) (by decide +kernel)) (fun _ _ _ _ _ => (pg_name (i := 4) sc_law.nd rfl (Or.inl rfl))) (fun _ _ _ _ _ => (pts_one (pt_cmpR op_ne (pe_ix (ix_listK K) (pv 7) (pv 4) (fun _ _ => rfl)) pe_int (nomark _)))) (fun _ _ _ _ _ => (pe_tup (pa_cons (pe_ix (ix_listK K) (pe_callB (cr_sortedSK K) (by rfl) Z.sorted (by decide +kernel) (pa_cons (pv 1) pa_nil)) (pv 4) (fun _ _ => rfl)) (pa_cons (pe_ix (ix_listK K) (pv 7) (pv 4) (fun _ _ => rfl)) pa_nil))))) pa_nil)))
        (pss_cons (ps_if (PW.pt (pw_or (pt_not (pt_val (pe_callD D__law_alike (hr.mono (by first | exact Nat.le_refl _ | omega | decide)) rfl pass0 (pa_cons (pv 6) (pa_cons (pe_tup (pa_cons (pv 2) (pa_cons (pv 8) pa_nil))) pa_nil))))) (pw_or1 (pt_not (pt_val (pe_callD D__law_alike (hr.mono (by first | exact Nat.le_refl _ | omega | decide)) rfl pass0 (pa_cons (pv 5) (pa_cons (pv 3) pa_nil))))))))
          (pss_one (ps_ret pe_bl)) pss_nil)
        (pss_cons (ps_for PassesOwn.never rfl (pi_range1 rfl Z.range (pa_cons pe_int pa_nil)) (pg_name (i := 4) sc_law.nd rfl (Or.inl rfl))
          (pss_one (ps_if (pt_not (pt_val (pe_callD D__law_alike (hr.mono (by first | exact Nat.le_refl _ | omega | decide)) rfl pass0 (pa_cons (pe_callD D_share (hr.mono (by first | exact Nat.le_refl _ | omega | decide)) rfl pass0 (pa_cons (pv 6) (pa_cons (pe_ix (ix_listK K) (pe_callB (cr_sortedSK K) (by rfl) Z.sorted (by decide +kernel) (pa_cons (pv 1) pa_nil)) (pv 4) (fun _ _ => rfl)) pa_nil))) (pa_cons (pe_ix (ix_listK K) (pv 7) (pv 4) (fun _ _ => rfl)) pa_nil)))))
          (pss_one (ps_ret pe_bl)) pss_nil)))
        (pss_one (ps_ret pe_bl))))))))))))), ?_⟩
  walk_at "go"
  refine ⟨a, ns, 0, rfl, by decide, hS, ?_⟩
  walk_at "go"
  refine ⟨_, rfl, fun nl H1 hnl e1 h1 => ?_⟩
  walk_at "go"
  refine ⟨a, ns, 1, rfl, by decide, e1.seq hS, ?_⟩
  walk_at "go"
  refine ⟨_, rfl, fun H2 e2 => ?_⟩
  walk_at "go"
  refine ⟨XS.sz (by simp), fun pl hpl => ?_⟩
  obtain ⟨e3, h3⟩ := XS.newly (o := HO.lst _) hpl
  generalize hH3 : upd _ pl _ = H3 at e3 h3 ⊢
  have hS2 := e2.seq (e1.seq hS)
  have hN2 : H2 nl = some (.lst ((namesBy (cell ns 0)).map V.str)) := e2 _ _ h1
  walk_at "go"
  refine ⟨a, ns, 2, rfl, by decide, e3.seq hS2, ?_⟩
  walk_at "go"
  have b1 : 0 ≤ cell ns 2 % 7 := Int.emod_nonneg _ (by decide)
  have b2 : cell ns 2 % 7 < 7 := Int.emod_lt_of_pos _ (by decide)
  refine XS.x_forR1 (by omega) (fun i σ H' => ∃ (y4 y9 : Option V) (us : List V) (ps : List Pr), σ = [some (.ref a), some (.ref nl), some (.int (bigBy (cell ns 1))), some (.ref pl), y4, none, none, none, none, y9, none, none] ∧
    Same H2 H' ∧ H' pl = some (.lst us) ∧ DpAll K H' us (ps.map prT) ∧ (∀ p ∈ ps, p.1 ∈ namesBy (cell ns 0)) ∧ ps.length ≤ i) ⟨none, none, [], [], rfl, e3, h3, .nil, (by intro p hp; cases hp), Nat.le_refl _⟩ ?_ ?_
  · rintro i σ H' hi ⟨y4, y9, us, ps, rfl, e4, h4, d4, m4, l4⟩
    walk_at "go"
    refine ⟨a, ns, 3 + i, rfl, by omega, e4.seq hS2, ?_⟩
    walk_at "go"
    refine XS.x_tyL' (XS.x_tyL h4) ?_
    walk_at "go"
    have c1 : 0 ≤ (cell ns (3 + i) + 104729 * i) % 4 := Int.emod_nonneg _ (by decide)
    have c2 : (cell ns (3 + i) + 104729 * i) % 4 < 4 := Int.emod_lt_of_pos _ (by decide)
    obtain ⟨x, hx, hxm⟩ := names_at (c := cell ns 0) c1 c2
    refine XS.x_ixL (SqL.of (e4 _ _ hN2)) hx ?_
    walk_at "go"
    refine ⟨_, rfl, fun H5 e5 => ?_⟩
    walk_at "go"
    refine ⟨XS.sz (by simp), fun t ht => ?_⟩
    obtain ⟨e6, h6⟩ := XS.newly (o := HO.tup _) ht
    generalize hH6 : upd _ t _ = H6 at e6 h6 ⊢
    walk_at "go"
    have e46 := e5.trans e6
    have h46 := e46 _ _ h4
    have k := keeps_lst (ys := us ++ [.ref t]) h46
    refine XS.x_app h46 (szl (by have := d4.len; rw [List.length_map] at this; omega)) ?_
    walk_at "go"
    refine ⟨_, _, us ++ [.ref t], ps ++ [(x, bigBy ((cell ns (3 + i) + 104729 * i) / 4))], rfl, XS.same_mut (e4.trans e46) hpl, upd_same, ?_, ?_, ?_⟩
    · rw [List.map_append]
      refine (DpAll.keeps k _ _ (im_pairs ps) (DpAll.same e46 _ _ d4)).app (.one ?_)
      exact Dp.keeps k _ _ (im_pair _) (Dp.mkPair (p := (x, bigBy ((cell ns (3 + i) + 104729 * i) / 4))) (SqT.of h6))
    · intro p hp
      rcases List.mem_append.mp hp with hp | hp
      · exact m4 p hp
      · simp at hp
        subst hp
        exact hxm
    · rw [List.length_append]
      show ps.length + 1 ≤ i + 1
      omega
  · rintro σ H' ⟨y4, y9, us, ps, rfl, e4, h4, d4, m4, l4⟩
    have l7 : ps.length ≤ 6 := by omega
    walk_at "go"
    refine XS.x_cut (fun σ H' => ∃ (y4 y9 : Option V) (us : List V) (ps : List Pr), σ = [some (.ref a), some (.ref nl), some (.int (bigBy (cell ns 1))), some (.ref pl), y4, none, none, none, none, y9, none, none] ∧
      Same H2 H' ∧ H' pl = some (.lst us) ∧ DpAll K H' us (ps.map prT) ∧ (∀ p ∈ ps, p.1 ∈ namesBy (cell ns 0)) ∧ ps.length ≤ 7) ?_ ?_
    · walk_at "go"
      refine ⟨a, ns, 2, rfl, by decide, e4.seq hS2, ?_⟩
      walk_at "go"
      have stay : ∃ (y4' y9' : Option V) (us' : List V) (ps' : List Pr), ([some (.ref a), some (.ref nl), some (.int (bigBy (cell ns 1))), some (.ref pl), y4, none, none, none, none, y9, none, none] : L2.St) = [some (.ref a), some (.ref nl), some (.int (bigBy (cell ns 1))), some (.ref pl), y4', none, none, none, none, y9', none, none] ∧
        Same H2 H' ∧ H' pl = some (.lst us') ∧ DpAll K H' us' (ps'.map prT) ∧ (∀ p ∈ ps', p.1 ∈ namesBy (cell ns 0)) ∧ ps'.length ≤ 7 := ⟨_, _, us, ps, rfl, e4, h4, d4, m4, by omega⟩
      refine XS.x_d (fun c => ?_) (fun c => ?_)
      · walk_at "go"
        refine ⟨XS.sz (by simp), fun t ht => ?_⟩
        obtain ⟨e6, h6⟩ := XS.newly (o := HO.lst _) ht
        generalize hH6 : upd _ t _ = H6 at e6 h6 ⊢
        refine XS.x_neD (.lst (SqL.of (e6 _ _ h4)) (DpAll.same e6 _ _ d4)) (.lst (SqL.of h6) .nil) (al_flt (n := 2) (al_pairs (by omega)) (by decide)) flt_nil ?_
        rw [eqv_nil]
        walk_at "go"
        cases ps with
        | nil =>
          walk_at "go"
          obtain ⟨y4', y9', us', ps', q1, q2, q3, q4, q5, q6⟩ := stay
          exact ⟨y4', y9', us', ps', q1, q2.trans e6, e6 _ _ q3, DpAll.same e6 _ _ q4, q5, q6⟩
        | cons p ps =>
          refine XS.x_yes rfl ?_
          walk_at "go"
          refine XS.x_tyL' (XS.x_tyL (e6 _ _ h4)) ?_
          obtain ⟨u, hu1, hu2⟩ := (DpAll.same e6 _ _ d4).get (i := 0) (d := prT p) rfl
          obtain ⟨b, rfl, hb⟩ := hu2.pair
          walk_at "go"
          refine XS.x_ixL (SqL.of (e6 _ _ h4)) (XS.atI_get (i := 0) hu1) ?_
          walk_at "go"
          refine XS.x_ixT hb (XS.atI_get (i := 0) rfl) ?_
          walk_at "go"
          refine XS.x_ixL (SqL.of (e6 _ _ h4)) (XS.atI_get (i := 0) hu1) ?_
          walk_at "go"
          refine XS.x_ixT hb (XS.atI_get (i := 1) rfl) ?_
          walk_at "go"
          refine ⟨XS.sz (by simp), fun t2 ht2 => ?_⟩
          obtain ⟨e7, h7⟩ := XS.newly (o := HO.tup _) ht2
          generalize hH7 : upd _ t2 _ = H7 at e7 h7 ⊢
          walk_at "go"
          have h47 := e7 _ _ (e6 _ _ h4)
          have k := keeps_lst (ys := us ++ [.ref t2]) h47
          refine XS.x_app h47 (szl (by have := d4.len; rw [List.length_map] at this; omega)) ?_
          walk_at "go"
          refine ⟨_, _, us ++ [.ref t2], (p :: ps) ++ [(p.1, 0 - p.2)], rfl, XS.same_mut ((e4.trans e6).trans e7) hpl, upd_same, ?_, ?_, ?_⟩
          · rw [List.map_append]
            refine (DpAll.keeps k _ _ (im_pairs _) (DpAll.same (e6.trans e7) _ _ d4)).app (.one ?_)
            exact Dp.keeps k _ _ (im_pair _) (Dp.mkPair (p := (p.1, 0 - p.2)) (SqT.of h7))
          · intro z hz
            rcases List.mem_append.mp hz with hz | hz
            · exact m4 z hz
            · simp at hz
              subst hz
              exact m4 p (List.mem_cons_self ..)
          · rw [List.length_append]
            show (p :: ps).length + 1 ≤ 7
            omega
      · walk_at "go"
        exact stay
    · rintro σ H' ⟨y4, y9, us, ps, rfl, e4, h4, d4, m4, l4⟩
      walk_at "go"
      have hlen := d4.len
      rw [List.length_map] at hlen
      refine XS.x_listL (SqL.of h4) fun hl H5 hhl e5 h5 => ?_
      walk_at "go"
      have d5 := DpAll.same e5 _ _ d4
      refine ⟨_, _, ps, rfl, .lst (SqL.of h5) d5, by omega, fun t H6 out e6 no sh sub d6 => ?_⟩
      walk_at "go"
      have e26 : Same H2 H6 := e4.trans (e5.trans e6)
      have hP6 : H6 pl = some (.lst us) := e6 _ _ (e5 _ _ h4)
      have dP6 : DpAll K H6 us (ps.map prT) := DpAll.same e6 _ _ d5
      have len4 : ∀ {ys : List Str}, ys.Perm (namesBy (cell ns 0)) → ys.length = 4 := fun h => h.length_eq
      refine XS.x_sortS (SqL.of (e26 _ _ hN2)) (by rw [namesBy_len]; decide) fun ys yl H7 hp7 hs7 hy7 e7 h7 => ?_
      have l7 := len4 hp7
      walk_at "go"
      refine XS.x_lcL ys V.str (fun _ => true) (fun x => .int (shr ps x)) (SqL.of h7) (by omega) (fun _ => .int _) (fun z hz H8 Yes No e8 yes no => ?_) (fun sl H8 acc hsl e8 hacc had => ?_)
      · walk_at "go"
        refine ⟨rfl, ?_⟩
        walk_at "go"
        have hP8 : H8 pl = some (.lst us) := e8 _ _ (e7 _ _ hP6)
        have dP8 : DpAll K H8 us (ps.map prT) := DpAll.same (e7.trans e8) _ _ dP6
        refine XS.x_lcW ps us (fun p => decide (p.1 = z)) (fun p => .int p.2) (SqL.of hP8) hlen (by omega) (fun _ => .int _) (fun i p u hi hu H9 Yes' No' e9 yes' no' => ?_) (fun l2 H9 acc2 hl2 e9 hacc2 had2 => ?_)
        · obtain ⟨b, rfl, hb⟩ := (pair_at dP8 hi hu).pair
          walk_at "go"
          refine ⟨rfl, ?_⟩
          walk_at "go"
          refine XS.x_ixT (e9.seqT hb) (XS.atI_get (i := 0) rfl) ?_
          walk_at "go"
          refine XS.x_d (fun c => ?_) (fun c => ?_)
          · walk_at "go"
            refine XS.x_ixT (e9.seqT hb) (XS.atI_get (i := 1) rfl) ?_
            exact yes' _ _ (Same.refl _) (by simpa using c) (.int _)
          · exact no' _ (Same.refl _) (by simpa using c)
        · walk_at "go"
          have e10 : (ps.filter fun p => decide (p.1 = z)).map (fun p => PyData.int p.2) = ((ps.filter fun p => decide (p.1 = z)).map (·.2)).map PyData.int := by rw [List.map_map]; rfl
          rw [e10] at had2
          rw [had2.ints] at hacc2
          refine XS.x_sum (SqL.of hacc2) ?_
          exact yes _ _ e9 rfl (.int _)
      · have e10 : (ys.filter fun _ => true).map (fun x => PyData.int (shr ps x)) = (ys.map (shr ps)).map PyData.int := by rw [List.map_map, List.filter_eq_self.mpr (fun _ _ => rfl)]; rfl
        rw [e10] at had
        rw [had.ints] at hacc
        have R : Rising ys := rising_of (hp7.nodup_iff.mpr (namesBy_nd _)) hs7
        have same : ∀ {zs : List Str}, zs.Perm (namesBy (cell ns 0)) → sortedS zs = true → zs = ys := fun hp hs =>
          rising_ext (rising_of (hp.nodup_iff.mpr (namesBy_nd _)) hs) R fun x => by rw [hp.mem_iff, hp7.mem_iff]
        have at4 : ∀ {k : Nat}, k < 4 → ∃ x, ys[k]? = some x := fun hk => ⟨_, List.getElem?_eq_getElem (by omega)⟩
        have out_eq : out = kept ys (shr ps) := norm_ext no (kept_norm R) fun x => by
          rw [sh, kept_shr R fun y hy => shr_out fun h => ?_]
          obtain ⟨p, hp, rfl⟩ := List.mem_map.mp h
          exact hy (hp7.mem_iff.mpr (m4 p hp))
        subst out_eq
        have e68 := e7.trans e8
        have hN8 : H8 nl = some (.lst ((namesBy (cell ns 0)).map V.str)) := e68 _ _ (e26 _ _ hN2)
        have shAt : ∀ {k : Nat} {x : Str}, ys[k]? = some x → atI ((ys.map (shr ps)).map V.int) (k : Int) = some (.int (shr ps x)) := fun hk => atI_get (by rw [List.getElem?_map, List.getElem?_map, hk]; rfl)
        walk_at "go"
        refine XS.x_lcR1 (K := K) (fun k => decide (shr ps (ys.getD k "") ≠ 0)) (fun k => prT (ys.getD k "", shr ps (ys.getD k ""))) ⟨by decide, by decide⟩ (fun _ => im_pair _) (fun k hk H9 Yes No e9 yes no => ?_) (fun l2 H9 acc2 hl2 e9 hacc2 had2 => ?_)
        · obtain ⟨x, hx⟩ := at4 (k := k) (by omega)
          have hg : ys.getD k "" = x := by rw [List.getD_eq_getElem?_getD, hx]; rfl
          rw [hg] at yes no
          walk_at "go"
          refine ⟨rfl, ?_⟩
          walk_at "go"
          refine XS.x_ixL (SqL.of (e9 _ _ hacc)) (shAt hx) ?_
          walk_at "go"
          refine XS.x_dn (fun c => ?_) (fun c => ?_)
          · walk_at "go"
            refine XS.x_sortS (SqL.of (e9 _ _ hN8)) (by rw [namesBy_len]; decide) fun ys2 y2l H10 hp10 hs10 hy10 e10 h10 => ?_
            rw [same hp10 hs10] at h10
            walk_at "go"
            refine XS.x_ixL (SqL.of h10) (XS.atI_get (i := k) (v := .str x) (by rw [List.getElem?_map, hx]; rfl)) ?_
            walk_at "go"
            refine XS.x_ixL (SqL.of (e10 _ _ (e9 _ _ hacc))) (shAt hx) ?_
            walk_at "go"
            refine ⟨XS.sz (by simp), fun t2 ht2 => ?_⟩
            obtain ⟨e11, h11⟩ := XS.newly (o := HO.tup _) ht2
            generalize hH11 : upd _ t2 _ = H11 at e11 h11 ⊢
            exact yes _ _ (e10.trans e11) (by simpa using c) (Dp.mkPair (p := (x, shr ps x)) (SqT.of h11))
          · exact no _ (Same.refl _) (by simpa using c)
        · have e10 : ((List.range (4 : Int).toNat).filter fun k => decide (shr ps (ys.getD k "") ≠ 0)).map (fun k => prT (ys.getD k "", shr ps (ys.getD k ""))) = (kept ys (shr ps)).map prT := by
            unfold kept
            rw [List.map_map]
            exact range_pick ys "" (by omega) (fun x => decide (shr ps x ≠ 0)) fun x => prT (x, shr ps x)
          rw [e10] at had2
          walk_at "go"
          refine XS.x_tupL (SqL.of hacc2) fun dl H10 hdl e10 h10 => ?_
          walk_at "go"
          have had3 := DpAll.same e10 _ _ had2
          refine ⟨XS.sz (by simp), fun t2 ht2 => ?_⟩
          obtain ⟨e11, h11⟩ := XS.newly (o := HO.tup _) ht2
          generalize hH11 : upd _ t2 _ = H11 at e11 h11 ⊢
          have e611 := e68.trans (e9.trans (e10.trans e11))
          have d11 := Dp.same e611 _ _ d6
          have hkl : (kept ys (shr ps)).length ≤ 1000 := by
            unfold kept
            rw [List.length_map]
            have := List.length_filter_le (fun x => decide (shr ps x ≠ 0)) ys
            omega
          walk_at "go"
          refine ⟨_, _, sumD (bigBy (cell ns 1), kept ys (shr ps)), 7, rfl, rfl, d11, Dp.mkSum (s := (bigBy (cell ns 1), kept ys (shr ps))) (SqT.of h11) (SqT.of (e11 _ _ h10)) (DpAll.same e11 _ _ had3), al_sum (n := 4) hkl, ?_⟩
          walk_at "go"
          refine ⟨_, _, .list (ps.map prT), 7, rfl, rfl, Dp.same (e6.trans e611) _ _ (.lst (SqL.of h5) d5), .lst (SqL.of (e611 _ _ hP6)) (DpAll.same e611 _ _ dP6), al_pairs (n := 5) (by omega), ?_⟩
          walk_at "go"
          refine XS.x_forR1 ⟨by decide, by decide⟩ (fun i σ H' => ∃ y4 : Option V, σ = [some (.ref a), some (.ref nl), some (.int (bigBy (cell ns 1))), some (.ref pl), y4, some (.ref hl), some (.ref t), some (.ref sl), some (.ref dl), y9, none, none] ∧ Same H11 H') ⟨_, rfl, Same.refl _⟩ ?_ ?_
          · rintro i σ H' hi ⟨y4, rfl, e12⟩
            obtain ⟨x, hx⟩ := at4 (k := i) (by omega)
            have e812 := e9.trans (e10.trans (e11.trans e12))
            walk_at "go"
            refine XS.x_sortS (SqL.of (e812 _ _ hN8)) (by rw [namesBy_len]; decide) fun ys2 y2l H13 hp13 hs13 hy13 e13 h13 => ?_
            rw [same hp13 hs13] at h13
            walk_at "go"
            refine XS.x_ixL (SqL.of h13) (XS.atI_get (i := i) (v := .str x) (by rw [List.getElem?_map, hx]; rfl)) ?_
            walk_at "go"
            refine ⟨_, (bigBy (cell ns 1), kept ys (shr ps)), x, rfl, Dp.same (e12.trans e13) _ _ d11, no.rise.nodup, ?_⟩
            walk_at "go"
            refine XS.x_ixL (SqL.of ((e812.trans e13) _ _ hacc)) (shAt hx) ?_
            walk_at "go"
            rw [show shr (kept ys (shr ps)) x = shr ps x from sh x]
            refine ⟨_, _, .int (shr ps x), 7, rfl, rfl, .int _, .int _, .int _, ?_⟩
            walk_at "go"
            exact ⟨_, rfl, e12.trans e13⟩
          · rintro σ H' ⟨y4, rfl, e12⟩
            walk_at "go"
            exact q _

end
theorem all_mk {l : PySem.W.OpenLaw} {w : World} {K : PySem.W.Frag} {h : Heap} {mg : Str → Option Value} {fa f1 f2 f3 f4 f5 f6 f7 f8 : Addr} (X : K.In h) (G : h.Ns mainGlobals mg) (hfa : mg "law" = some (.ref fa))
    {od1 an1 od2 an2 od3 an3 od4 an4 od5 an5 od6 an6 od7 an7 od8 an8 : Option Addr} {sl1 sl2 sl3 sl4 sl5 sl6 sl7 sl8 : Array (Option Value)} {oc1 kV1 dc1 pm1 cd1 ct1 oc2 kV2 dc2 pm2 cd2 ct2 oc3 kV3 dc3 pm3 cd3 ct3 oc4 kV4 dc4 pm4 cd4 ct4 oc5 kV5 dc5 pm5 cd5 ct5 oc6 kV6 dc6 pm6 cd6 ct6 oc7 kV7 dc7 pm7 cd7 ct7 oc8 kV8 dc8 pm8 cd8 ct8 : Value}
    (a1 : PySem.W.nsIn K mainGlobals "made" = some (some (.ref f1))) (l1 : K.lookup f1 = some ⟨oc1, od1, .func (PySem.W.fnOf "made" "made" (defArgs s_made) (defBody s_made) (defScope s_made) .none kV1 dc1 pm1 an1 cd1 ct1), sl1⟩) (c1 : PySem.W.codeIn K cd1 "made" = true) (k1 : PySem.W.keepIn K (.ref f1) = true)
    (a2 : PySem.W.nsIn K mainGlobals "share" = some (some (.ref f2))) (l2 : K.lookup f2 = some ⟨oc2, od2, .func (PySem.W.fnOf "share" "share" (defArgs s_share) (defBody s_share) (defScope s_share) .none kV2 dc2 pm2 an2 cd2 ct2), sl2⟩) (c2 : PySem.W.codeIn K cd2 "share" = true) (k2 : PySem.W.keepIn K (.ref f2) = true)
    (a3 : PySem.W.nsIn K mainGlobals "_law_cell_at" = some (some (.ref f3))) (l3 : K.lookup f3 = some ⟨oc3, od3, .func (PySem.W.fnOf "_law_cell_at" "_law_cell_at" (defArgs s__law_cell_at) (defBody s__law_cell_at) (defScope s__law_cell_at) .none kV3 dc3 pm3 an3 cd3 ct3), sl3⟩) (c3 : PySem.W.codeIn K cd3 "_law_cell_at" = true) (k3 : PySem.W.keepIn K (.ref f3) = true)
    (a4 : PySem.W.nsIn K mainGlobals "_law_whole" = some (some (.ref f4))) (l4 : K.lookup f4 = some ⟨oc4, od4, .func (PySem.W.fnOf "_law_whole" "_law_whole" (defArgs s__law_whole) (defBody s__law_whole) (defScope s__law_whole) .none kV4 dc4 pm4 an4 cd4 ct4), sl4⟩) (c4 : PySem.W.codeIn K cd4 "_law_whole" = true) (k4 : PySem.W.keepIn K (.ref f4) = true)
    (a5 : PySem.W.nsIn K mainGlobals "_law_names_by" = some (some (.ref f5))) (l5 : K.lookup f5 = some ⟨oc5, od5, .func (PySem.W.fnOf "_law_names_by" "_law_names_by" (defArgs s__law_names_by) (defBody s__law_names_by) (defScope s__law_names_by) .none kV5 dc5 pm5 an5 cd5 ct5), sl5⟩) (c5 : PySem.W.codeIn K cd5 "_law_names_by" = true) (k5 : PySem.W.keepIn K (.ref f5) = true)
    (a6 : PySem.W.nsIn K mainGlobals "_law_big_by" = some (some (.ref f6))) (l6 : K.lookup f6 = some ⟨oc6, od6, .func (PySem.W.fnOf "_law_big_by" "_law_big_by" (defArgs s__law_big_by) (defBody s__law_big_by) (defScope s__law_big_by) .none kV6 dc6 pm6 an6 cd6 ct6), sl6⟩) (c6 : PySem.W.codeIn K cd6 "_law_big_by" = true) (k6 : PySem.W.keepIn K (.ref f6) = true)
    (a7 : PySem.W.nsIn K mainGlobals "_law_alike" = some (some (.ref f7))) (l7 : K.lookup f7 = some ⟨oc7, od7, .func (PySem.W.fnOf "_law_alike" "_law_alike" (defArgs s__law_alike) (defBody s__law_alike) (defScope s__law_alike) .none kV7 dc7 pm7 an7 cd7 ct7), sl7⟩) (c7 : PySem.W.codeIn K cd7 "_law_alike" = true) (k7 : PySem.W.keepIn K (.ref f7) = true)
    (a8 : PySem.W.nsIn K mainGlobals "law" = some (some (.ref f8))) (l8 : K.lookup f8 = some ⟨oc8, od8, .func (PySem.W.fnOf "law" "law" (defArgs s_law) (defBody s_law) (defScope s_law) .none kV8 dc8 pm8 an8 cd8 ct8), sl8⟩) (c8 : PySem.W.codeIn K cd8 "law" = true) (k8 : PySem.W.keepIn K (.ref f8) = true)
    (z_len : PySem.W.nsIn K mainGlobals "len" = some none)
    (z_isinstance : PySem.W.nsIn K mainGlobals "isinstance" = some none)
    (z_int : PySem.W.nsIn K mainGlobals "int" = some none)
    (z_str : PySem.W.nsIn K mainGlobals "str" = some none)
    (z_bool : PySem.W.nsIn K mainGlobals "bool" = some none)
    (z_list : PySem.W.nsIn K mainGlobals "list" = some none)
    (z_tuple : PySem.W.nsIn K mainGlobals "tuple" = some none)
    (z_dict : PySem.W.nsIn K mainGlobals "dict" = some none)
    (z_set : PySem.W.nsIn K mainGlobals "set" = some none)
    (z_range : PySem.W.nsIn K mainGlobals "range" = some none)
    (z_sorted : PySem.W.nsIn K mainGlobals "sorted" = some none)
    (z_sum : PySem.W.nsIn K mainGlobals "sum" = some none)
    : ∃ fd : FuncData, (∀ (s : Shared) (v : Value), BindsTo s fd ⟨[v], []⟩ [("_law_script", v)]) ∧ ∀ base : Heap, K.In base → base.Ns mainGlobals mg → FnOk l.prog w K mg base CX0 10 fa fd ["_law_script"] (sp_law K) := by
  have e := hfa.symm.trans (PySem.W.mg_of X G a8)
  cases e
  have Z : Bl mg := ⟨PySem.W.mg_none_of X G z_len, PySem.W.mg_none_of X G z_isinstance, PySem.W.mg_none_of X G z_int, PySem.W.mg_none_of X G z_str, PySem.W.mg_none_of X G z_bool, PySem.W.mg_none_of X G z_list, PySem.W.mg_none_of X G z_tuple, PySem.W.mg_none_of X G z_dict, PySem.W.mg_none_of X G z_set, PySem.W.mg_none_of X G z_range, PySem.W.mg_none_of X G z_sorted, PySem.W.mg_none_of X G z_sum⟩
  have F_made : FunAt K mg "made" s_made P_made := ⟨_, _, fun_mk (st := s_made) l1 c1 k1, PySem.W.mg_of X G a1, (fun_mk (st := s_made) l1 c1 k1).binds (ps := P_made) fun _ _ _ _ _ _ us hl => match us, hl with | [_, _], _ => rfl⟩
  have F_share : FunAt K mg "share" s_share P_share := ⟨_, _, fun_mk (st := s_share) l2 c2 k2, PySem.W.mg_of X G a2, (fun_mk (st := s_share) l2 c2 k2).binds (ps := P_share) fun _ _ _ _ _ _ us hl => match us, hl with | [_, _], _ => rfl⟩
  have F__law_cell_at : FunAt K mg "_law_cell_at" s__law_cell_at P__law_cell_at := ⟨_, _, fun_mk (st := s__law_cell_at) l3 c3 k3, PySem.W.mg_of X G a3, (fun_mk (st := s__law_cell_at) l3 c3 k3).binds (ps := P__law_cell_at) fun _ _ _ _ _ _ us hl => match us, hl with | [_, _], _ => rfl⟩
  have F__law_whole : FunAt K mg "_law_whole" s__law_whole P__law_whole := ⟨_, _, fun_mk (st := s__law_whole) l4 c4 k4, PySem.W.mg_of X G a4, (fun_mk (st := s__law_whole) l4 c4 k4).binds (ps := P__law_whole) fun _ _ _ _ _ _ us hl => match us, hl with | [_], _ => rfl⟩
  have F__law_names_by : FunAt K mg "_law_names_by" s__law_names_by P__law_names_by := ⟨_, _, fun_mk (st := s__law_names_by) l5 c5 k5, PySem.W.mg_of X G a5, (fun_mk (st := s__law_names_by) l5 c5 k5).binds (ps := P__law_names_by) fun _ _ _ _ _ _ us hl => match us, hl with | [_], _ => rfl⟩
  have F__law_big_by : FunAt K mg "_law_big_by" s__law_big_by P__law_big_by := ⟨_, _, fun_mk (st := s__law_big_by) l6 c6 k6, PySem.W.mg_of X G a6, (fun_mk (st := s__law_big_by) l6 c6 k6).binds (ps := P__law_big_by) fun _ _ _ _ _ _ us hl => match us, hl with | [_], _ => rfl⟩
  have F__law_alike : FunAt K mg "_law_alike" s__law_alike P__law_alike := ⟨_, _, fun_mk (st := s__law_alike) l7 c7 k7, PySem.W.mg_of X G a7, (fun_mk (st := s__law_alike) l7 c7 k7).binds (ps := P__law_alike) fun _ _ _ _ _ _ us hl => match us, hl with | [_, _], _ => rfl⟩
  have F_law := fun_mk (st := s_law) l8 c8 k8
  refine ⟨PySem.W.fnOf "law" "law" (defArgs s_law) (defBody s_law) (defScope s_law) .none kV8 dc8 pm8 an8 cd8 ct8, fun s v => .of_eq rfl, fun base _ _ => ?_⟩
  exact d_law F_law Z (d__law_cell_at F__law_cell_at Z) (d__law_names_by F__law_names_by Z) (d__law_big_by F__law_big_by Z) (alike_all F__law_alike Z (d__law_whole F__law_whole Z) 8) (d_made F_made Z) (d_share F_share Z)
end R1
open PySem PySem.W PyProof.Rows
set_option maxRecDepth 100000 in
set_option maxHeartbeats 0 in
theorem PySem.Challenge.cw_somenumber_k01_sum_made_holds : PySem.Challenge.rw_somenumber_k01_sum_made.Holds := by
  w_on; o_law; k_head; (case hw => w_witness2)
  k_fill
  refine L2.walk_of (l := PySem.Challenge.rw_somenumber_k01_sum_made) (n := 63) (k := 10) (x := "_law_script") (CX := fun _ => L2.CX0) (sp := fun w => XS.sp_law _) rfl (by decide) rfl ⟨rfl, by decide, by decide⟩ (fun w h Y => PySem.W.kIn_of Y) ?F (fun _ _ a ns hl _ hS => ⟨a, ns, rfl, hS, hl, fun _ => rfl⟩) (fun _ _ _ _ _ h => h)
  case F =>
    intro w mg fa h KX G hmg
    refine' R1.all_mk KX G hmg ?a1 ?l1 ?c1 ?k1 ?a2 ?l2 ?c2 ?k2 ?a3 ?l3 ?c3 ?k3 ?a4 ?l4 ?c4 ?k4 ?a5 ?l5 ?c5 ?k5 ?a6 ?l6 ?c6 ?k6 ?a7 ?l7 ?c7 ?k7 ?a8 ?l8 ?c8 ?k8 ?z_len ?z_isinstance ?z_int ?z_str ?z_bool ?z_list ?z_tuple ?z_dict ?z_set ?z_range ?z_sorted ?z_sum
    (case a1 => k_is); (case l1 => k_is); (case c1 => k_is); (case k1 => k_is)
    (case a2 => k_is); (case l2 => k_is); (case c2 => k_is); (case k2 => k_is)
    (case a3 => k_is); (case l3 => k_is); (case c3 => k_is); (case k3 => k_is)
    (case a4 => k_is); (case l4 => k_is); (case c4 => k_is); (case k4 => k_is)
    (case a5 => k_is); (case l5 => k_is); (case c5 => k_is); (case k5 => k_is)
    (case a6 => k_is); (case l6 => k_is); (case c6 => k_is); (case k6 => k_is)
    (case a7 => k_is); (case l7 => k_is); (case c7 => k_is); (case k7 => k_is)
    (case a8 => k_is); (case l8 => k_is); (case c8 => k_is); (case k8 => k_is)
    (case z_len => k_is)
    (case z_isinstance => k_is)
    (case z_int => k_is)
    (case z_str => k_is)
    (case z_bool => k_is)
    (case z_list => k_is)
    (case z_tuple => k_is)
    (case z_dict => k_is)
    (case z_set => k_is)
    (case z_range => k_is)
    (case z_sorted => k_is)
    (case z_sum => k_is)
#print axioms PySem.Challenge.cw_somenumber_k01_sum_made_holds

