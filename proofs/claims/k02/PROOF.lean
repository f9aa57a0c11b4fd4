import PyProof.Rows.All
import Wide.All
import OpenK.AllK
import Wide.FinOn
import HandS.ForMost
import HandS.IsInst
import HandS.More
import HandS.Star
import HandS.TupAny
import HandS.TupMul
import HandS.Style
import HandS.Wide
import PyProof.StrOps2
import PyProof.Rows.StrMeet
import HandS.Evl
import KE.DataEq
import HandS.ForExc
import HandS.ExcIs
import HandS.HotCalls
import HandS.FStr
import HandS.Small
import HandS.DictComp
import PySem.Challenge.RW_somenumber_k02_sums_reckoned
set_option Elab.async false
set_option linter.all false
set_option maxRecDepth 100000
set_option maxHeartbeats 4000000
namespace XS
open PySem PySem.Spec PyProof.Rows L2

/-! ### defs by their names -/
/-- the def named nm stands in the module's names -/
def FunAt (K : PySem.W.Frag) (mg : Str → Option Value) (nm : Str) (st : Stmt) (ps : List Str) : Prop :=
  ∃ f fd, Fun K nm nm st f fd ∧ mg nm = some (.ref f) ∧ Binds K fd ps []
/-- the def named nm keeps the promise sp -/
def DefAt (P : Program) (w : World) (K : PySem.W.Frag) (mg : Str → Option Value) (base : Heap) (CX : CXT) (k : Nat) (nm : Str) (ps : List Str) (sp : Sp) : Prop :=
  ∃ f fd, FnOk P w K mg base CX k f fd ps sp ∧ mg nm = some (.ref f) ∧ PySem.W.keepIn K (.ref f) = true ∧ Binds K fd ps []
section
variable {P : Program} {w : World} {K : PySem.W.Frag} {mg : Str → Option Value} {base : Heap} {nm : Str} {st : Stmt} {ps N : List Str} {sp sp' : Sp} {k j : Nat} {CXX : CXT}
theorem DefAt.mono (D : DefAt P w K mg base CXX j nm ps sp) (h : j ≤ k) : DefAt P w K mg base CXX k nm ps sp := by
  obtain ⟨f, fd, F, a, b, c⟩ := D
  exact ⟨f, fd, F.mono h, a, b, c⟩
theorem DefAt.imp (D : DefAt P w K mg base CXX k nm ps sp) (h : ∀ vs H Q E, sp' vs H Q E → sp vs H Q E) : DefAt P w K mg base CXX k nm ps sp' := by
  obtain ⟨f, fd, F, a, b, c⟩ := D
  exact ⟨f, fd, F.imp h, a, b, c⟩
/-- a promise by the body's reading, where nothing is raised -/
theorem FunAt.ok (F : FunAt K mg nm st ps) (S : FnScope N ps (defScope st)) (len : ∀ vs H Q E, sp vs H Q E → vs.length = ps.length)
    (hbody : ∀ (f : Addr) (cdv : Value) (A : Around) (outer : List Env) (s : Shared) (H : Hp) (vs : List V) (Q : VK) (E : XK), Room k (A.deeper (envOfC nm (defScope st) s.heap.objs.size f cdv)) → sp vs H Q E →
      ∃ t, PSs (cxOf CX0 P w K mg base N nm (defScope st) f cdv A outer s H E).nox (defBody st) t ∧ t { nx := fun _ H' => Q .non H', rt := Q } (start N vs) H) : DefAt P w K mg base CX0 (k + 1) nm ps sp := by
  obtain ⟨f, fd, F, a, b⟩ := F
  exact ⟨f, fd, F.ok S len (hbody f), a, F.kp, b⟩
/-- a promise that nobody can ask -/
theorem FunAt.never (F : FunAt K mg nm st ps) (no : ∀ vs H Q E, ¬ sp vs H Q E) : DefAt P w K mg base CXX k nm ps sp := by
  obtain ⟨f, fd, F, a, b⟩ := F
  exact ⟨f, fd, ⟨fun vs H Q E h => absurd h (no vs H Q E), fun A outer s H args us vs Q E _ _ _ _ h => absurd h (no vs H Q E)⟩, a, F.kp, b⟩
end
section
variable {X : Cx} {CXX : CXT} {k : Nat} {ps : List Str} {sp : Sp} {E : XK} {x : Str} {e : Expr} {es : List Expr} {t : TA} {p pos : Pos}
theorem pe_callD (D : DefAt X.prog X.w X.K X.mg X.base CXX k x ps sp) (hr : Room k X.A) (hg : Gl X x) (hx : Passes CXX X E) (ha : PA X (e :: es) t) (hdb : (x == ("__debug__" : Str)) = false := by decide)
    (he : starEach (e :: es) X.env = (false, eval e X.env) :: starEach es X.env := by rfl) (hpl : (backTo pos (starEach es X.env)).any (·.1) = false := by rfl) : PE X (.Call (.Name x p) (e :: es) [] pos) (tCall sp [] E t) := by
  obtain ⟨f, fd, F, a, b, c⟩ := D
  exact pe_call F hr hg a b c .nil hx ha hdb he hpl
end

/-! ### text times number -/
def repS (x : Str) (n : Nat) : Str := ⟨(List.replicate n x.cps.toList).flatten.toArray⟩
theorem repS_len (x : Str) (n : Nat) : (repS x n).length = n * x.length := by
  show (List.replicate n x.cps.toList).flatten.toArray.size = n * x.cps.size
  simp
theorem foldl_cps (c : Array Nat) : ∀ (m : Nat) (acc : Array Nat), (List.replicate m c).foldl (· ++ ·) acc = acc ++ (List.replicate m c.toList).flatten.toArray
  | 0, acc => by simp
  | m + 1, acc => by
    rw [List.replicate_succ, List.foldl_cons, foldl_cps c m, List.replicate_succ, List.flatten_cons]
    apply Array.ext'
    simp
def rRepS : R2 := fun x y H Q => ∃ z k, x = .str z ∧ y = .int k ∧ 1 ≤ k ∧ k ≤ 1000 ∧ z.length ≤ 1000 ∧ Q (.str (repS z k.toNat)) H
theorem op_repS {X : Cx} : OpR X (binaryOp .Mult) rRepS := by
  intro pins s σ H x y v u Q I rx ry h
  obtain ⟨z, k, rfl, rfl, h1, h2, hz, q⟩ := h
  obtain ⟨t, rfl⟩ := rx
  obtain ⟨t2, rfl⟩ := ry
  refine PySem.P.mul_str (by simp; omega) (fun _ _ => ?_) (fun _ _ => ?_) ?_
  · have h3 : (z.length : Int) * k ≤ 1000 * 1000 := Int.mul_le_mul (by omega) h2 (by omega) (by omega)
    have h4 : (z.length : Int) ≤ (2 ^ 63 - 1) / k := Int.le_ediv_of_mul_le (by omega) (by omega)
    have h5 : ((2 : Int) ^ 63 - 1) / k = (2 ^ 63 - 1) / k := rfl
    omega
  · have h3 : z.length * k.toNat ≤ 1000 * 1000 := Nat.mul_le_mul hz (by omega)
    unfold PySem.Builtin.Str.tooLong
    simp
    have : sizeLine = 16777216 := sizeLine_eq
    omega
  · rw [if_neg (by omega)]
    by_cases hb : (k == 1 || z.length == 0) = true
    · rw [if_pos hb]
      have e : repS z k.toNat = z := by
        unfold repS
        simp only [Bool.or_eq_true, beq_iff_eq] at hb
        rcases hb with hb | hb
        · subst hb
          simp
        · have h0 : z.cps.toList = [] := by
            have : z.cps.size = 0 := hb
            simp at this
            simp [this]
          rw [h0]
          have : (List.replicate k.toNat ([] : List Nat)).flatten = [] := by simp
          rw [this]
          have h1 : z.cps = #[] := by
            have : z.cps.size = 0 := hb
            simpa using this
          cases z
          simp at h1
          subst h1
          rfl
      rw [e] at q
      exact ⟨.str z, H, I, ⟨_, rfl⟩, q⟩
    · rw [if_neg hb]
      have e : (⟨(List.replicate k.toNat z.cps).foldl (· ++ ·) #[]⟩ : Str) = repS z k.toNat := by
        unfold repS
        rw [foldl_cps]
        simp
      rw [e]
      refine ⟨?_, .str (repS z k.toNat), H, I.tok _, ⟨_, rfl⟩, q⟩
      have h3 : z.length * k.toNat ≤ 1000 * 1000 := Nat.mul_le_mul hz (by omega)
      rw [repS_len, sizeLine_eq, Nat.mul_comm]
      omega
end XS

namespace XS
open PySem PySem.Spec PyProof.Rows L2
section
variable {K : PySem.W.Frag} {σ : L2.St} {H : Hp} {ta tb te tx : TE} {t u w : TS} {c c2 : TT} {x y z v : V} {r : R2} {Q : VK} {D : Ends} {g : TG}
/-! ### one step of a reading -/
theorem beq_dec {α : Type} [DecidableEq α] (i j : α) : (i == j) = decide (i = j) := by rw [Bool.eq_iff_iff]; simp
theorem x_sAsg (h : te σ H fun x H1 => g x σ H1 (u D)) : tSeq (tAsg te g) u D σ H := h
theorem x_sIf (h : c σ H fun b H1 => if b = true then t { D with nx := u D } σ H1 else w { D with nx := u D } σ H1) : tSeq (tIfS c t w) u D σ H := h
theorem x_sDrop (h : te σ H fun _ H1 => u D σ H1) : tSeq (tDrop te) u D σ H := h
theorem x_sNext (h : u D σ H) : tSeq tNext u D σ H := h
theorem x_sSeq (h : tSeq t (tSeq w u) D σ H) : tSeq (tSeq t w) u D σ H := h
theorem x_sAny (h : t { D with nx := u D } σ H) : tSeq t u D σ H := h
theorem x_asg (h : te σ H fun x H1 => g x σ H1 D.nx) : tAsg te g D σ H := h
theorem x_if (h : c σ H fun b H1 => if b = true then t D σ H1 else w D σ H1) : tIfS c t w D σ H := h
theorem x_drop (h : te σ H fun _ H1 => D.nx σ H1) : tDrop te D σ H := h
theorem x_ret (h : te σ H D.rt) : tRet te D σ H := h
theorem x_next (h : D.nx σ H) : tNext D σ H := h
theorem x_cont (h : D.ct σ H) : tCont D σ H := h
theorem x_nx {f : L2.St → Hp → Prop} {a b d} (h : f σ H) : Ends.nx ⟨f, a, b, d⟩ σ H := h
theorem x_ct {f : L2.St → Hp → Prop} {a b d} (h : f σ H) : Ends.ct ⟨a, b, d, f⟩ σ H := h
theorem x_rt {f : VK} {a b d} (h : f v H) : Ends.rt ⟨a, f, b, d⟩ v H := h
theorem x_bk {f : L2.St → Hp → Prop} {a b d} (h : f σ H) : Ends.bk ⟨a, b, f, d⟩ σ H := h
theorem x_gname {i : Nat} {k : L2.St → Hp → Prop} (h : k (σ.set i (some v)) H) : gName i v σ H k := h
theorem x_var {i : Nat} (e : σ[i]? = some (some v)) (h : Q v H) : tVar i σ H Q := ⟨v, e, h⟩
theorem x_c (h : Q v H) : tC v σ H Q := h
theorem x_op (h : ta σ H fun x H1 => tb σ H1 fun y H2 => r x y H2 Q) : tOp r ta tb σ H Q := h
theorem x_un {r : V → Hp → VK → Prop} (h : ta σ H fun x H1 => r x H1 Q) : tUn r ta σ H Q := h
theorem x_I0 {f : Int → Int → V} {i j : Int} (h : Q (f i j) H) : rI0 f (.int i) (.int j) H Q := ⟨i, j, rfl, rfl, h⟩
theorem x_I {C : Int → Int → Prop} {f : Int → Int → V} {i j : Int} (hc : C i j) (h : Q (f i j) H) : rI C f (.int i) (.int j) H Q := ⟨i, j, rfl, rfl, hc, h⟩
theorem x_U {f : Int → V} {i : Int} (h : Q (f i) H) : rU f (.int i) H Q := ⟨i, rfl, h⟩
theorem x_eqI {i j : Int} (h : Q (.bl (decide (i = j))) H) : rEq (.int i) (.int j) H Q := ⟨rfl, by rw [dec_int, beq_dec]; exact h⟩
theorem x_neI {i j : Int} (h : Q (.bl (!decide (i = j))) H) : rNe (.int i) (.int j) H Q := ⟨rfl, by rw [dec_int, beq_dec]; exact h⟩
theorem x_eqS {i j : Str} (h : Q (.bl (decide (i = j))) H) : rEq (.str i) (.str j) H Q := ⟨rfl, by rw [dec_str, beq_dec]; exact h⟩
theorem x_neS {i j : Str} (h : Q (.bl (!decide (i = j))) H) : rNe (.str i) (.str j) H Q := ⟨rfl, by rw [dec_str, beq_dec]; exact h⟩
theorem x_eqB {i j : Bool} (h : Q (.bl (decide (i = j))) H) : rEq (.bl i) (.bl j) H Q := ⟨rfl, by rw [dec_bl, beq_dec]; exact h⟩
theorem x_neB {i j : Bool} (h : Q (.bl (!decide (i = j))) H) : rNe (.bl i) (.bl j) H Q := ⟨rfl, by rw [dec_bl, beq_dec]; exact h⟩
theorem x_test {k : Bool → Hp → Prop} (h : te σ H fun x H' => ∃ b, x = .bl b ∧ k b H') : tTest te σ H k := h
theorem x_B {k : Bool → Hp → Prop} (h : te σ H fun x H' => ∃ b, x = .bl b ∧ k b H') : tB te σ H k := h
theorem x_k {b : Bool} {k : Bool → Hp → Prop} (h : k b H) : ∃ b', V.bl b = V.bl b' ∧ k b' H := ⟨b, rfl, h⟩
theorem x_and {k : Bool → Hp → Prop} (h : c σ H fun b H1 => if b = true then c2 σ H1 k else k false H1) : tAnd c c2 σ H k := h
theorem x_or {k : Bool → Hp → Prop} (h : c σ H fun b H1 => if b = true then k true H1 else c2 σ H1 k) : tOr c c2 σ H k := h
theorem x_not {k : Bool → Hp → Prop} (h : c σ H fun b H1 => k (!b) H1) : tNot c σ H k := h
theorem x_andV (h : ta σ H fun x H1 => ∃ b, x = .bl b ∧ if b = true then tb σ H1 Q else Q (.bl false) H1) : tAndV ta tb σ H Q := h
theorem x_orV (h : ta σ H fun x H1 => ∃ b, x = .bl b ∧ if b = true then Q (.bl true) H1 else tb σ H1 Q) : tOrV ta tb σ H Q := h
theorem x_notV (h : ta σ H fun x H1 => ∃ b, x = .bl b ∧ Q (.bl (!b)) H1) : tNotV ta σ H Q := h
theorem x_ifE (h : c σ H fun b H1 => if b = true then ta σ H1 Q else tb σ H1 Q) : tIf c ta tb σ H Q := h
theorem x_k2 {b : Bool} {P : Bool → Prop} (h : P b) : ∃ b', V.bl b = V.bl b' ∧ P b' := ⟨b, rfl, h⟩
theorem x_call {sp : Sp} {dvs : List V} {E : XK} {a : TA} (h : a σ H fun vs H1 => sp (vs ++ dvs) H1 Q E) : tCall sp dvs E a σ H Q := h
theorem x_cb {r : List V → Hp → VK → Prop} {a : TA} (h : a σ H fun vs H1 => r vs H1 Q) : tCB r a σ H Q := h
theorem x_nil {k : List V → Hp → Prop} (h : k [] H) : tNil σ H k := h
theorem x_cons {a : TA} {k : List V → Hp → Prop} (h : ta σ H fun x H1 => a σ H1 fun xs H2 => k (x :: xs) H2) : tCons ta a σ H k := h
theorem x_tup {a : TA} (h : a σ H fun xs H1 => xs.length ≤ sizeLine ∧ ∀ p, H1 p = none → Q (.ref p) (upd H1 p (.tup xs))) : tTup a σ H Q := h
theorem x_lst {a : TA} (h : a σ H fun xs H1 => xs.length ≤ sizeLine ∧ ∀ p, H1 p = none → Q (.ref p) (upd H1 p (.lst xs))) : tLst a σ H Q := h
theorem x_sl {r : V → Option Int → Option Int → Hp → VK → Prop} {tl th : TO} (h : te σ H fun x H1 => tl σ H1 fun l H2 => th σ H2 fun u H3 => r x l u H3 Q) : tSl r te tl th σ H Q := h
theorem x_nopart {k : Option Int → Hp → Prop} (h : k none H) : tNoPart σ H k := h
theorem x_part {k : Option Int → Hp → Prop} (h : te σ H fun x H1 => ∃ i, x = .int i ∧ k (some i) H1) : tPart te σ H k := h
theorem x_ki {i : Int} {P : Int → Prop} (h : P i) : ∃ i', V.int i = V.int i' ∧ P i' := ⟨i, rfl, h⟩
theorem x_bm {T : String} {r : V → List V → Hp → VK → Prop} {a : TA} (h : te σ H fun x H1 => tyV K T x H1 ∧ a σ H1 fun xs H2 => r x xs H2 Q) : tBM K T r te a σ H Q := h
theorem x_bm0 {T : String} {r : V → List V → Hp → VK → Prop} (h : te σ H fun x H1 => tyV K T x H1 ∧ r x [] H1 Q) : tBM0 K T r te σ H Q := h
theorem x_ixL {p : Addr} {xs : List V} {i : Int} (hx : SqL K H p xs) (ha : atI xs i = some v) (h : Q v H) : rIxL K (.ref p) (.int i) H Q := ⟨p, xs, i, v, rfl, rfl, hx, ha, h⟩
theorem x_ixT {p : Addr} {xs : List V} {i : Int} (hx : SqT K H p xs) (ha : atI xs i = some v) (h : Q v H) : rIxT K (.ref p) (.int i) H Q := ⟨p, xs, i, v, rfl, rfl, hx, ha, h⟩
theorem x_ixS {z : Str} {i : Int} {cc : Nat} (hz : z.length ≤ sizeLine) (ha : atI z.cps.toList i = some cc) (h : Q (.str ⟨#[cc]⟩) H) : rIxS (.str z) (.int i) H Q := ⟨z, i, cc, rfl, rfl, hz, ha, h⟩
theorem x_tyL {p : Addr} {xs : List V} (h : H p = some (.lst xs)) : tyV K "list" (.ref p) H := Or.inl ⟨rfl, _, Or.inl (Or.inl h)⟩
theorem x_tyL' {A : Prop} {p : Addr} (h1 : tyV K "list" (.ref p) H) (h : A) : tyV K "list" (.ref p) H ∧ A := ⟨h1, h⟩
theorem x_app {p : Addr} {xs : List V} (h1 : H p = some (.lst xs)) (hz : xs.length < sizeLine) (h : Q .non (upd H p (.lst (xs ++ [v])))) : rAppend (.ref p) [v] H Q := ⟨p, xs, v, rfl, rfl, h1, hz, h⟩
theorem x_T {A B : Prop} (h : A) : if true = true then A else B := by rw [if_pos rfl]; exact h
theorem x_F {A B : Prop} (h : B) : if false = true then A else B := by rw [if_neg Bool.false_ne_true]; exact h
theorem x_Tn {A B : Prop} (h : A) : if (!false) = true then A else B := x_T h
theorem x_Fn {A B : Prop} (h : B) : if (!true) = true then A else B := x_F h
theorem x_2 {b : Bool} {A B : Prop} (h1 : b = true → A) (h2 : b = false → B) : if b = true then A else B := by
  cases b with
  | true => exact x_T (h1 rfl)
  | false => exact x_F (h2 rfl)
theorem x_d {p : Prop} [Decidable p] {A B : Prop} (h1 : p → A) (h2 : ¬ p → B) : if decide p = true then A else B := by
  by_cases h : p
  · rw [decide_eq_true h]; exact x_T (h1 h)
  · rw [decide_eq_false h]; exact x_F (h2 h)
theorem x_dn {p : Prop} [Decidable p] {A B : Prop} (h1 : ¬ p → A) (h2 : p → B) : if (!decide p) = true then A else B := by
  by_cases h : p
  · rw [decide_eq_true h]; exact x_F (h2 h)
  · rw [decide_eq_false h]; exact x_T (h1 h)
/-- a known test -/
theorem x_yes {b : Bool} {A B : Prop} (hb : b = true) (h : A) : if b = true then A else B := by rw [if_pos hb]; exact h
theorem x_no {b : Bool} {A B : Prop} (hb : b = false) (h : B) : if b = true then A else B := by rw [if_neg (by rw [hb]; exact Bool.false_ne_true)]; exact h
/-- a new object: what stood stands -/
theorem same_upd {H : Hp} {p : Addr} {o : HO} (h : H p = none) : Same H (upd H p o) := fun b x e => by
  rw [upd_ne (ne_of_none e h)]
  exact e
theorem x_new {p : Addr} {o : HO} {P : Hp → Prop} (hp : H p = none) (h : ∀ H1, Same H H1 → H1 p = some o → P H1) : P (upd H p o) := h _ (same_upd hp) upd_same
theorem newly {H : Hp} {p : Addr} {o : HO} (hp : H p = none) : Same H (upd H p o) ∧ upd H p o p = some o := ⟨same_upd hp, upd_same⟩
theorem same_mut {H H' : Hp} {p : Addr} {o : HO} (e : Same H H') (h : H p = none) : Same H (upd H' p o) := fun b x q => by
  rw [upd_ne (ne_of_none q h)]
  exact e b x q
/-- a new tuple, list: told by what holds behind -/
theorem x_newT {xs : List V} {Q : VK} (hz : xs.length ≤ sizeLine) (h : ∀ p H1, H p = none → Same H H1 → H1 p = some (.tup xs) → Q (.ref p) H1) : xs.length ≤ sizeLine ∧ ∀ p, H p = none → Q (.ref p) (upd H p (.tup xs)) :=
  ⟨hz, fun p hp => h p _ hp (same_upd hp) upd_same⟩
theorem x_newL {xs : List V} {Q : VK} (hz : xs.length ≤ sizeLine) (h : ∀ p H1, H p = none → Same H H1 → H1 p = some (.lst xs) → Q (.ref p) H1) : xs.length ≤ sizeLine ∧ ∀ p, H p = none → Q (.ref p) (upd H p (.lst xs)) :=
  ⟨hz, fun p hp => h p _ hp (same_upd hp) upd_same⟩
end
/-! ### for -/
def ForJ (J : It) (g : TG) (t : TS) : TS := tFor (fun _ H' R => R J H') g t
section
variable {K : PySem.W.Frag} {σ : L2.St} {H : Hp} {tl : TE} {t u : TS} {D : Ends} {g : TG}
theorem x_for {wi : TI} (h : wi σ H fun J H1 => ForJ J g t D σ H1) : tFor wi g t D σ H := h
theorem x_sFor {wi : TI} (h : wi σ H fun J H1 => ForJ J g t { D with nx := u D } σ H1) : tSeq (tFor wi g t) u D σ H := h
theorem x_iL {R : It → Hp → Prop} (h : tl σ H fun x H1 => ∃ a, x = .ref a ∧ (∃ xs, SqL K H1 a xs) ∧ R (Itl K a) H1) : iList K tl σ H R := h
theorem x_iT {R : It → Hp → Prop} (h : tl σ H fun x H1 => ∃ a, x = .ref a ∧ (∃ xs, SqT K H1 a xs) ∧ R (Itt K a) H1) : iTup K tl σ H R := h
theorem x_iR1 {a : TA} {R : It → Hp → Prop} (h : a σ H fun vs H1 => ∃ j : Int, vs = [.int j] ∧ -(2 ^ 62) ≤ j ∧ j < 2 ^ 62 ∧ R (Itr 0 j.toNat) H1) : iRng1 a σ H R := h
theorem x_iR2 {a : TA} {R : It → Hp → Prop} (h : a σ H fun vs H1 => ∃ i j : Int, vs = [.int i, .int j] ∧ (-(2 ^ 62) ≤ i ∧ i < 2 ^ 62 ∧ -(2 ^ 62) ≤ j ∧ j < 2 ^ 62) ∧ R (Itr i (j - i).toNat) H1) : iRng2 a σ H R := h
theorem x_forL {p : Addr} {xs : List V} (hx : SqL K H p xs) (Pv : Nat → L2.St → Hp → Prop) (h0 : Pv 0 σ H) (hl : ∀ i σ' H', i ≤ xs.length → Pv i σ' H' → SqL K H' p xs)
    (hs : ∀ i x σ' H', xs[i]? = some x → Pv i σ' H' → g x σ' H' fun σ2 H2 => t { D with nx := Pv (i + 1), ct := Pv (i + 1), bk := D.nx } σ2 H2) (hd : ∀ σ' H', Pv xs.length σ' H' → D.nx σ' H') :
    ∃ a, V.ref p = .ref a ∧ (∃ xs, SqL K H a xs) ∧ ForJ (Itl K a) g t D σ H := ⟨p, rfl, ⟨xs, hx⟩, for_list (K := K) (a := p) (xs := xs) Pv h0 hl hs hd⟩
theorem x_forT {p : Addr} {xs : List V} (hx : SqT K H p xs) (Pv : Nat → L2.St → Hp → Prop) (h0 : Pv 0 σ H) (hl : ∀ i σ' H', i ≤ xs.length → Pv i σ' H' → SqT K H' p xs)
    (hs : ∀ i x σ' H', xs[i]? = some x → Pv i σ' H' → g x σ' H' fun σ2 H2 => t { D with nx := Pv (i + 1), ct := Pv (i + 1), bk := D.nx } σ2 H2) (hd : ∀ σ' H', Pv xs.length σ' H' → D.nx σ' H') :
    ∃ a, V.ref p = .ref a ∧ (∃ xs, SqT K H a xs) ∧ ForJ (Itt K a) g t D σ H := ⟨p, rfl, ⟨xs, hx⟩, for_tup (K := K) (a := p) (xs := xs) Pv h0 hl hs hd⟩
theorem x_forR1 {n : Int} (hb : -(2 ^ 62) ≤ n ∧ n < 2 ^ 62) (Pv : Nat → L2.St → Hp → Prop) (h0 : Pv 0 σ H)
    (hs : ∀ (i : Nat) σ' H', (i : Int) < n → Pv i σ' H' → g (.int (i : Int)) σ' H' fun σ2 H2 => t { D with nx := Pv (i + 1), ct := Pv (i + 1), bk := D.nx } σ2 H2) (hd : ∀ σ' H', Pv n.toNat σ' H' → D.nx σ' H') :
    ∃ j : Int, [V.int n] = [.int j] ∧ -(2 ^ 62) ≤ j ∧ j < 2 ^ 62 ∧ ForJ (Itr 0 j.toNat) g t D σ H :=
  ⟨n, rfl, hb.1, hb.2, for_range (lo := 0) (n := n.toNat) Pv h0 (fun i σ' H' hi q => by rw [Int.zero_add]; exact hs i σ' H' (by omega) q) hd⟩
theorem x_forR2 {lo n : Int} (hb : -(2 ^ 62) ≤ lo ∧ lo < 2 ^ 62 ∧ -(2 ^ 62) ≤ n ∧ n < 2 ^ 62) (Pv : Nat → L2.St → Hp → Prop) (h0 : Pv 0 σ H)
    (hs : ∀ (i : Nat) σ' H', lo + (i : Int) < n → Pv i σ' H' → g (.int (lo + (i : Int))) σ' H' fun σ2 H2 => t { D with nx := Pv (i + 1), ct := Pv (i + 1), bk := D.nx } σ2 H2) (hd : ∀ σ' H', Pv (n - lo).toNat σ' H' → D.nx σ' H') :
    ∃ i j : Int, [V.int lo, V.int n] = [.int i, .int j] ∧ (-(2 ^ 62) ≤ i ∧ i < 2 ^ 62 ∧ -(2 ^ 62) ≤ j ∧ j < 2 ^ 62) ∧ ForJ (Itr i (j - i).toNat) g t D σ H :=
  ⟨lo, n, rfl, hb, for_range (lo := lo) (n := (n - lo).toNat) Pv h0 (fun i σ' H' hi q => hs i σ' H' (by omega) q) hd⟩
/-! ### targets -/
theorem x_gtup {n : Nat} {p : Addr} {xs : List V} {gs : TGs} {k : L2.St → Hp → Prop} (hx : SqT K H p xs) (hn : xs.length = n) (h : gs xs σ H k) : gTup K n gs (.ref p) σ H k := ⟨p, xs, rfl, hx, hn, h⟩
theorem x_gcons {gs : TGs} {v : V} {r : List V} {k : L2.St → Hp → Prop} (h : g v σ H fun σ' H' => gs r σ' H' k) : gCons g gs (v :: r) σ H k := ⟨v, r, rfl, h⟩
theorem x_gnil {k : L2.St → Hp → Prop} (h : k σ H) : gNil [] σ H k := ⟨rfl, h⟩
end
theorem sz {n : Nat} (h : n ≤ 100000) : n ≤ sizeLine := Nat.le_trans h (by decide)
theorem szl {n : Nat} (h : n < 100000) : n < sizeLine := Nat.lt_of_lt_of_le h (by decide)
theorem _root_.L2.Same.seqT {K : PySem.W.Frag} {H H' : Hp} {a : Addr} {xs : List V} (e : Same H H') (h : SqT K H a xs) : SqT K H' a xs := by
  rcases h with (h | ⟨o, h⟩) | h
  · exact .inl (.inl (e _ _ h))
  · exact .inl (.inr ⟨o, e _ _ h⟩)
  · exact .inr h
theorem g_var {i : Nat} {σ : L2.St} {H : Hp} {Q : VK} (h : tVar i σ H Q) : tVar i σ H Q := h
theorem g_I {C : Int → Int → Prop} {f : Int → Int → V} {x y : V} {H : Hp} {Q : VK} (h : rI C f x y H Q) : rI C f x y H Q := h
end XS

namespace XS
open PySem PySem.Spec PyProof.Rows L2
/-! ### texts in order -/
def slt (a b : Str) : Prop := ltCps a.cps.toList b.cps.toList = true
theorem ltC_irr : ∀ a : List Nat, ltCps a a = false
  | [] => rfl
  | a :: r => by
    show (decide (a < a) || (a == a && ltCps r r)) = false
    rw [ltC_irr r]; simp
theorem ltC_tr : ∀ a b c : List Nat, ltCps a b = true → ltCps b c = true → ltCps a c = true
  | [], [], _, h, _ => by cases h
  | [], _ :: _, [], _, h => by cases h
  | [], _ :: _, _ :: _, _, _ => rfl
  | _ :: _, [], _, h, _ => by cases h
  | _ :: _, _ :: _, [], _, h => by cases h
  | a :: r, b :: s, c :: t, h1, h2 => by
    have h1' : (decide (a < b) || (a == b && ltCps r s)) = true := h1
    have h2' : (decide (b < c) || (b == c && ltCps s t)) = true := h2
    show (decide (a < c) || (a == c && ltCps r t)) = true
    simp only [Bool.or_eq_true, Bool.and_eq_true, decide_eq_true_eq, beq_iff_eq] at *
    rcases h1' with h1' | ⟨h1', h3⟩
    · rcases h2' with h2' | ⟨h2', h4⟩
      · exact .inl (by omega)
      · exact .inl (by omega)
    · rcases h2' with h2' | ⟨h2', h4⟩
      · exact .inl (by omega)
      · exact .inr ⟨by omega, ltC_tr r s t h3 h4⟩
theorem ltC_tot : ∀ a b : List Nat, ltCps a b = false → ltCps b a = false → a = b
  | [], [], _, _ => rfl
  | [], _ :: _, h, _ => by cases h
  | _ :: _, [], _, h => by cases h
  | a :: r, b :: s, h1, h2 => by
    have h1' : (decide (a < b) || (a == b && ltCps r s)) = false := h1
    have h2' : (decide (b < a) || (b == a && ltCps s r)) = false := h2
    simp only [Bool.or_eq_false_iff, Bool.and_eq_false_iff, decide_eq_false_iff_not, beq_eq_false_iff_ne] at *
    have e : a = b := by omega
    subst e
    have h3 : ltCps r s = false := by rcases h1'.2 with h | h; exact absurd rfl h; exact h
    have h4 : ltCps s r = false := by rcases h2'.2 with h | h; exact absurd rfl h; exact h
    rw [ltC_tot r s h3 h4]
theorem str_ext {a b : Str} (h : a.cps.toList = b.cps.toList) : a = b := by
  cases a; cases b
  simp at h
  subst h
  rfl
theorem slt_irr (a : Str) : ¬ slt a a := by unfold slt; rw [ltC_irr]; exact Bool.false_ne_true
theorem slt_tr {a b c : Str} (h1 : slt a b) (h2 : slt b c) : slt a c := ltC_tr _ _ _ h1 h2
theorem slt_asym {a b : Str} (h1 : slt a b) (h2 : slt b a) : False := slt_irr _ (slt_tr h1 h2)
theorem slt_tot {a b : Str} (h1 : ¬ slt a b) (h2 : ¬ slt b a) : a = b := str_ext (ltC_tot _ _ (by unfold slt at h1; simpa using h1) (by unfold slt at h2; simpa using h2))
theorem slt_lt {a b : Str} : slt a b ↔ a.cps.toList < b.cps.toList := by unfold slt; rw [ltCps_eq]; simp
/-- rising names -/
def Rising (xs : List Str) : Prop := xs.Pairwise slt
theorem rising_of : ∀ {xs : List Str}, xs.Nodup → sortedS xs = true → Rising xs := by
  have key : ∀ (r : List Str) (p : Str), (p :: r).Nodup → risingS p r = true → Rising (p :: r) := by
    intro r
    induction r with
    | nil => intro p _ _; exact List.pairwise_singleton _ _
    | cons x r ih =>
      intro p nd h
      have h' : (!ltCps x.cps.toList p.cps.toList && risingS x r) = true := h
      simp only [Bool.and_eq_true, Bool.not_eq_true'] at h'
      have nd2 := (List.nodup_cons.mp nd).2
      have ih' := ih x nd2 h'.2
      have hpx : slt p x := by
        by_cases e : slt p x
        · exact e
        · have : p = x := slt_tot e (by unfold slt; rw [h'.1]; exact Bool.false_ne_true)
          subst this
          exact absurd (List.mem_cons_self ..) (List.nodup_cons.mp nd).1
      refine List.pairwise_cons.mpr ⟨fun y hy => ?_, ih'⟩
      rcases List.mem_cons.mp hy with rfl | hy
      · exact hpx
      · exact slt_tr hpx (List.rel_of_pairwise_cons ih' hy)
  intro xs nd h
  cases xs with
  | nil => exact List.Pairwise.nil
  | cons p r => exact key r p nd h
theorem Rising.nodup {xs : List Str} (h : Rising xs) : xs.Nodup := List.Pairwise.imp (fun {a b} h e => by subst e; exact slt_irr _ h) h
/-- rising lists of the same members are the same -/
theorem rising_ext : ∀ {xs ys : List Str}, Rising xs → Rising ys → (∀ x, x ∈ xs ↔ x ∈ ys) → xs = ys
  | [], [], _, _, _ => rfl
  | [], y :: _, _, _, h => absurd ((h y).mpr (List.mem_cons_self ..)) (by simp)
  | x :: _, [], _, _, h => absurd ((h x).mp (List.mem_cons_self ..)) (by simp)
  | x :: xs, y :: ys, hx, hy, h => by
    have e : x = y := by
      rcases List.mem_cons.mp ((h x).mp (List.mem_cons_self ..)) with e | hm
      · exact e
      · rcases List.mem_cons.mp ((h y).mpr (List.mem_cons_self ..)) with e | hm2
        · exact e.symm
        · exact (slt_asym (List.rel_of_pairwise_cons hx hm2) (List.rel_of_pairwise_cons hy hm)).elim
    subst e
    have : xs = ys := by
      refine rising_ext (List.pairwise_cons.mp hx).2 (List.pairwise_cons.mp hy).2 fun z => ⟨fun hz => ?_, fun hz => ?_⟩
      · rcases List.mem_cons.mp ((h z).mp (List.mem_cons_of_mem _ hz)) with e | hm
        · subst e; exact (slt_irr _ (List.rel_of_pairwise_cons hx hz)).elim
        · exact hm
      · rcases List.mem_cons.mp ((h z).mpr (List.mem_cons_of_mem _ hz)) with e | hm
        · subst e; exact (slt_irr _ (List.rel_of_pairwise_cons hy hz)).elim
        · exact hm
    rw [this]
/-! ### sums -/
abbrev Pr := Str × Int
/-- the share of a name in pairs, in any order -/
def shr (ps : List Pr) (x : Str) : Int := ((ps.filter fun p => decide (p.1 = x)).map (·.2)).sum
theorem shr_nil (x : Str) : shr [] x = 0 := rfl
theorem shr_cons (p : Pr) (ps : List Pr) (x : Str) : shr (p :: ps) x = (if p.1 = x then p.2 else 0) + shr ps x := by
  unfold shr
  by_cases h : p.1 = x
  · rw [List.filter_cons, if_pos (by simpa using h), if_pos h]; rfl
  · rw [List.filter_cons, if_neg (by simpa using h), if_neg h, Int.zero_add]
theorem shr_app (ps qs : List Pr) (x : Str) : shr (ps ++ qs) x = shr ps x + shr qs x := by
  unfold shr
  rw [List.filter_append, List.map_append, List.sum_append]
theorem shr_out {ps : List Pr} {x : Str} (h : x ∉ ps.map (·.1)) : shr ps x = 0 := by
  induction ps with
  | nil => rfl
  | cons p ps ih =>
    rw [List.map_cons, List.mem_cons, not_or] at h
    rw [shr_cons, if_neg (fun e => h.1 e.symm), ih h.2, Int.zero_add]
theorem shr_at {ps : List Pr} {p : Pr} (nd : (ps.map (·.1)).Nodup) (h : p ∈ ps) : shr ps p.1 = p.2 := by
  induction ps with
  | nil => cases h
  | cons q ps ih =>
    rw [List.map_cons] at nd
    have nd' := List.nodup_cons.mp nd
    rw [shr_cons]
    rcases List.mem_cons.mp h with rfl | h
    · rw [if_pos rfl, shr_out nd'.1, Int.add_zero]
    · rw [if_neg (fun e => nd'.1 (by rw [e]; exact List.mem_map_of_mem h)), ih nd'.2 h, Int.zero_add]
/-- the form of a sum's parts -/
structure Norm (ps : List Pr) : Prop where
  rise : Rising (ps.map (·.1))
  nz : ∀ p ∈ ps, p.2 ≠ 0
theorem Norm.mem_iff {ps : List Pr} (n : Norm ps) (x : Str) : x ∈ ps.map (·.1) ↔ shr ps x ≠ 0 := by
  constructor
  · intro h
    obtain ⟨p, hp, rfl⟩ := List.mem_map.mp h
    rw [shr_at n.rise.nodup hp]
    exact n.nz p hp
  · intro h
    by_cases c : x ∈ ps.map (·.1)
    · exact c
    · exact absurd (shr_out c) h
theorem pairs_of {ps : List Pr} (nd : (ps.map (·.1)).Nodup) : ps = (ps.map (·.1)).map fun x => (x, shr ps x) := by
  rw [List.map_map]
  refine (List.map_id ps).symm.trans (List.map_congr_left fun p hp => ?_)
  show p = (p.1, shr ps p.1)
  rw [shr_at nd hp]
theorem norm_ext {ps qs : List Pr} (n : Norm ps) (m : Norm qs) (h : ∀ x, shr ps x = shr qs x) : ps = qs := by
  have e : ps.map (·.1) = qs.map (·.1) := rising_ext n.rise m.rise fun x => by rw [n.mem_iff, m.mem_iff, h]
  rw [pairs_of n.rise.nodup, pairs_of m.rise.nodup, e]
  exact List.map_congr_left fun x _ => by rw [h]
/-- of rising names those with a share -/
def kept (xs : List Str) (f : Str → Int) : List Pr := (xs.filter fun x => decide (f x ≠ 0)).map fun x => (x, f x)
theorem kept_names (xs : List Str) (f : Str → Int) : (kept xs f).map (·.1) = xs.filter fun x => decide (f x ≠ 0) := by
  unfold kept
  rw [List.map_map]
  exact (List.map_congr_left fun x _ => rfl).trans (List.map_id _)
theorem kept_norm {xs : List Str} {f : Str → Int} (h : Rising xs) : Norm (kept xs f) where
  rise := by rw [kept_names]; exact List.Pairwise.sublist List.filter_sublist h
  nz := fun p hp => by
    unfold kept at hp
    obtain ⟨x, hx, rfl⟩ := List.mem_map.mp hp
    simpa using (List.mem_filter.mp hx).2
theorem kept_shr {xs : List Str} {f : Str → Int} (h : Rising xs) (hf : ∀ x, x ∉ xs → f x = 0) (x : Str) : shr (kept xs f) x = f x := by
  by_cases c : x ∈ (kept xs f).map (·.1)
  · obtain ⟨p, hp, rfl⟩ := List.mem_map.mp c
    rw [shr_at (kept_norm h).rise.nodup hp]
    unfold kept at hp
    obtain ⟨y, hy, rfl⟩ := List.mem_map.mp hp
    rfl
  · rw [shr_out c]
    rw [kept_names, List.mem_filter] at c
    by_cases d : x ∈ xs
    · by_cases e : f x = 0
      · exact e.symm
      · exact absurd ⟨d, by simpa using e⟩ c
    · exact (hf x d).symm
/-! ### data -/
def prT (p : Pr) : PyData := .tuple [.str p.1, .int p.2]
abbrev Sm := Int × List Pr
def sumD (s : Sm) : PyData := .tuple [.int s.1, .tuple (s.2.map prT)]
/-- data of ints, texts, True, None, tuples and lists, n deep at most -/
inductive Al : Nat → PyData → Prop
  | int {n : Nat} (i : Int) : Al n (.int i)
  | str {n : Nat} (x : Str) : Al n (.str x)
  | tru {n : Nat} : Al n (.bool true)
  | non {n : Nat} : Al n .none
  | tup {n : Nat} {ds : List PyData} : (∀ d ∈ ds, Al n d) → ds.length ≤ 1000 → Al (n + 1) (.tuple ds)
  | lst {n : Nat} {ds : List PyData} : (∀ d ∈ ds, Al n d) → ds.length ≤ 1000 → Al (n + 1) (.list ds)
theorem al_pair {n : Nat} (p : Pr) : Al (n + 1) (prT p) := by
  refine .tup (fun d hd => ?_) (by simp)
  rcases List.mem_cons.mp hd with rfl | hd
  · exact .str _
  · rcases List.mem_cons.mp hd with rfl | hd
    · exact .int _
    · cases hd
theorem al_sum {n : Nat} {s : Sm} (h : s.2.length ≤ 1000) : Al (n + 3) (sumD s) := by
  refine .tup (fun d hd => ?_) (by simp)
  rcases List.mem_cons.mp hd with rfl | hd
  · exact .int _
  · rcases List.mem_cons.mp hd with rfl | hd
    · refine .tup (fun d hd => ?_) (by rw [List.length_map]; exact h)
      obtain ⟨p, _, rfl⟩ := List.mem_map.mp hd
      exact al_pair p
    · cases hd
end XS
namespace L2
open PySem PySem.Spec PyProof.Rows XS
section
variable {K : PySem.W.Frag} {H H' : Hp}
/-! what stands keeps its data -/
mutual
theorem Dp.same (e : Same H H') : ∀ (d : PyData) (v : V), Dp K H v d → Dp K H' v d
  | .none, _, h => by cases h; exact .non
  | .bool b, _, h => by cases h; exact .bl b
  | .int i, _, h => by cases h; exact .int i
  | .str x, _, h => by cases h; exact .str x
  | .list ds, _, h => by
    cases h with
    | lst hs ha => exact .lst (e.seq hs) (DpAll.same e ds _ ha)
  | .tuple ds, _, h => by
    cases h with
    | tup hs ha => exact .tup (e.seqT hs) (DpAll.same e ds _ ha)
  | .dict _, _, h => by cases h
theorem DpAll.same (e : Same H H') : ∀ (ds : List PyData) (vs : List V), DpAll K H vs ds → DpAll K H' vs ds
  | [], _, h => by cases h; exact .nil
  | d :: ds, _, h => by
    cases h with
    | cons h1 h2 => exact .cons (Dp.same e d _ h1) (DpAll.same e ds _ h2)
end
theorem DpAll.len : ∀ {vs : List V} {ds : List PyData}, DpAll K H vs ds → vs.length = ds.length
  | [], _, h => by cases h; rfl
  | v :: vs, _, h => by
    cases h with
    | cons h1 h2 => rw [List.length_cons, List.length_cons, DpAll.len h2]
theorem DpAll.get : ∀ {vs : List V} {ds : List PyData} {i : Nat} {d : PyData}, DpAll K H vs ds → ds[i]? = some d → ∃ v, vs[i]? = some v ∧ Dp K H v d
  | [], _, i, d, h, e => by cases h; simp at e
  | v :: vs, _, 0, d, h, e => by
    cases h with
    | cons h1 h2 =>
      simp at e
      subst e
      exact ⟨v, rfl, h1⟩
  | v :: vs, _, i + 1, d, h, e => by
    cases h with
    | cons h1 h2 =>
      obtain ⟨u, q1, q2⟩ := DpAll.get (i := i) (d := d) h2 (by simpa using e)
      exact ⟨u, by simpa using q1, q2⟩
theorem DpAll.getV : ∀ {vs : List V} {ds : List PyData} {i : Nat} {v : V}, DpAll K H vs ds → vs[i]? = some v → ∃ d, ds[i]? = some d ∧ Dp K H v d
  | [], _, i, d, h, e => by simp at e
  | v :: vs, _, 0, d, h, e => by
    cases h with
    | cons h1 h2 =>
      simp at e
      subst e
      exact ⟨_, rfl, h1⟩
  | v :: vs, _, i + 1, d, h, e => by
    cases h with
    | cons h1 h2 =>
      obtain ⟨u, q1, q2⟩ := DpAll.getV (i := i) h2 (by simpa using e)
      exact ⟨u, by simpa using q1, q2⟩
theorem DpAll.app : ∀ {vs ws : List V} {ds es : List PyData}, DpAll K H vs ds → DpAll K H ws es → DpAll K H (vs ++ ws) (ds ++ es)
  | [], _, _, _, h, g => by cases h; exact g
  | v :: vs, _, _, _, h, g => by
    cases h with
    | cons h1 h2 => exact .cons h1 (DpAll.app h2 g)
theorem DpAll.one {v : V} {d : PyData} (h : Dp K H v d) : DpAll K H [v] [d] := .cons h .nil
end
end L2
namespace XS
open PySem PySem.Spec PyProof.Rows L2
section
variable {K : PySem.W.Frag} {H H' : Hp}
/-- the kinds of objects -/
theorem tyx_T {a : Addr} {xs : List V} (h : SqT K H a xs) : TyX K H (.ref a) (.type "tuple") := by
  rcases h with (h | ⟨o, h⟩) | ⟨o, its, n, h, hc, _⟩
  · exact .base (.tup h)
  · exact .fTuple h
  · exact .kTuple h hc
theorem tyx_L {a : Addr} {xs : List V} (h : SqL K H a xs) : TyX K H (.ref a) (.type "list") := by
  rcases h with (h | ⟨o, h⟩) | ⟨o, its, n, h, hc, _⟩
  · exact .base (.lst h)
  · exact .base (.frz h)
  · exact .kList h hc
end
/-- x is True, False -/
def rIsC : R2 := fun x y H Q => ∃ b, y = .bl b ∧ Q (.bl (decide (x = .bl b))) H
theorem op_isC {X : Cx} : OpR X (compareOp .Is) rIsC := by
  intro pins s σ H x y v u Q I rx ry h
  obtain ⟨b, rfl, q⟩ := h
  cases (show u = Value.bool b from ry)
  have fin : ∀ k, decide (x = V.bl b) = k → wpAny (model X.prog X.w) X.A (pure (Value.bool k)) (EP X pins σ Q) X.xe s := fun k e => wpAny_pure ⟨.bl k, H, I, rfl, by rw [← e]; exact q⟩
  cases x with
  | non => cases rx; exact fin false (by simp)
  | bl a =>
    cases rx
    have e : (Value.bool a == Value.bool b) = decide (V.bl a = V.bl b) := by cases a <;> cases b <;> rfl
    show wpAny _ _ (pure (Value.bool (Value.bool a == Value.bool b))) _ _ _
    rw [e]
    exact fin _ rfl
  | int i => obtain ⟨t, rfl⟩ := rx; exact fin false (by simp)
  | str i => obtain ⟨t, rfl⟩ := rx; exact fin false (by simp)
  | byt i => obtain ⟨t, rfl⟩ := rx; exact fin false (by simp)
  | flt i => obtain ⟨t, rfl⟩ := rx; exact fin false (by simp)
  | ref i => cases rx; exact fin false (by simp)
  | ty i => cases rx; exact fin false (by simp)
end XS

namespace XS
open PySem PySem.Spec PyProof.Rows L2
/-! ### data that never changes: tuples, ints, texts -/
inductive Im : PyData → Prop
  | int (i : Int) : Im (.int i)
  | str (x : Str) : Im (.str x)
  | bl (b : Bool) : Im (.bool b)
  | non : Im .none
  | tup {ds : List PyData} : (∀ d ∈ ds, Im d) → Im (.tuple ds)
theorem im_pair (p : Pr) : Im (prT p) := by
  refine .tup fun d hd => ?_
  rcases List.mem_cons.mp hd with rfl | hd
  · exact .str _
  · rcases List.mem_cons.mp hd with rfl | hd
    · exact .int _
    · cases hd
theorem im_tup2 {a b : PyData} (ha : Im a) (hb : Im b) : Im (.tuple [a, b]) := by
  refine .tup fun d hd => ?_
  rcases List.mem_cons.mp hd with rfl | hd
  · exact ha
  · rcases List.mem_cons.mp hd with rfl | hd
    · exact hb
    · cases hd
theorem im_map {α : Type} {l : List α} {f : α → PyData} (h : ∀ x ∈ l, Im (f x)) : Im (.tuple (l.map f)) := .tup fun d hd => by
  obtain ⟨x, hx, rfl⟩ := List.mem_map.mp hd
  exact h x hx
theorem im_sum (s : Sm) : Im (sumD s) := im_tup2 (.int _) (im_map fun p _ => im_pair p)
/-- what never changes stands -/
def Keeps (H H' : Hp) : Prop := ∀ a u, (∃ xs, u = HO.tup xs) ∨ (∃ o w, u = HO.frz o w) → H a = some u → H' a = some u
theorem Keeps.refl (H : Hp) : Keeps H H := fun _ _ _ h => h
theorem Keeps.trans {H H1 H2 : Hp} (a : Keeps H H1) (b : Keeps H1 H2) : Keeps H H2 := fun x u k h => b x u k (a x u k h)
theorem _root_.L2.Same.keeps {H H' : Hp} (e : Same H H') : Keeps H H' := fun a u _ h => e a u h
theorem keeps_lst {H : Hp} {p : Addr} {xs ys : List V} (h : H p = some (.lst xs)) : Keeps H (upd H p (.lst ys)) := fun a u k e => by
  rw [upd_ne (fun z => ?_)]
  · exact e
  · subst z
    rw [h] at e
    cases e
    rcases k with ⟨_, k⟩ | ⟨_, _, k⟩ <;> cases k
theorem keeps_dk {H : Hp} {p : Addr} {xs ys : List (Key × V)} (h : H p = some (.dK xs)) : Keeps H (upd H p (.dK ys)) := fun a u k e => by
  rw [upd_ne (fun z => ?_)]
  · exact e
  · subst z
    rw [h] at e
    cases e
    rcases k with ⟨_, k⟩ | ⟨_, _, k⟩ <;> cases k
theorem Keeps.seqT {K : PySem.W.Frag} {H H' : Hp} {a : Addr} {xs : List V} (e : Keeps H H') (h : SqT K H a xs) : SqT K H' a xs := by
  rcases h with (h | ⟨o, h⟩) | h
  · exact .inl (.inl (e _ _ (.inl ⟨_, rfl⟩) h))
  · exact .inl (.inr ⟨o, e _ _ (.inr ⟨_, _, rfl⟩) h⟩)
  · exact .inr h
end XS
namespace L2
open PySem PySem.Spec PyProof.Rows XS
section
variable {K : PySem.W.Frag} {H H' : Hp}
mutual
theorem Dp.keeps (e : Keeps H H') : ∀ (d : PyData) (v : V), Im d → Dp K H v d → Dp K H' v d
  | .none, _, _, h => by cases h; exact .non
  | .bool b, _, _, h => by cases h; exact .bl b
  | .int i, _, _, h => by cases h; exact .int i
  | .str x, _, _, h => by cases h; exact .str x
  | .list ds, _, i, h => by cases i
  | .tuple ds, _, i, h => by
    cases h with
    | tup hs ha =>
      cases i with
      | tup i => exact .tup (XS.Keeps.seqT e hs) (DpAll.keeps e ds _ i ha)
  | .dict _, _, _, h => by cases h
theorem DpAll.keeps (e : Keeps H H') : ∀ (ds : List PyData) (vs : List V), (∀ d ∈ ds, Im d) → DpAll K H vs ds → DpAll K H' vs ds
  | [], _, _, h => by cases h; exact .nil
  | d :: ds, _, i, h => by
    cases h with
    | cons h1 h2 => exact .cons (Dp.keeps e d _ (i d (List.mem_cons_self ..)) h1) (DpAll.keeps e ds _ (fun z hz => i z (List.mem_cons_of_mem _ hz)) h2)
end
/-- pairs, sums as they stand -/
theorem Dp.pair {v : V} {p : Pr} (h : Dp K H v (prT p)) : ∃ b, v = .ref b ∧ SqT K H b [.str p.1, .int p.2] := by
  unfold prT at h
  cases h with
  | tup hs ha =>
    cases ha with
    | cons h1 h2 =>
      cases h2 with
      | cons h2 h3 =>
        cases h3
        cases h1
        cases h2
        exact ⟨_, rfl, hs⟩
theorem Dp.mkPair {b : Addr} {p : Pr} (h : SqT K H b [.str p.1, .int p.2]) : Dp K H (.ref b) (prT p) := .tup h (.cons (.str _) (.cons (.int _) .nil))
theorem Dp.sum {v : V} {s : Sm} (h : Dp K H v (sumD s)) : ∃ a b vs, v = .ref a ∧ SqT K H a [.int s.1, .ref b] ∧ SqT K H b vs ∧ DpAll K H vs (s.2.map prT) := by
  unfold sumD at h
  cases h with
  | tup hs ha =>
    cases ha with
    | cons h1 h2 =>
      cases h2 with
      | cons h2 h3 =>
        cases h3
        cases h1
        cases h2 with
        | tup hb hc => exact ⟨_, _, _, rfl, hs, hb, hc⟩
theorem Dp.mkSum {a b : Addr} {vs : List V} {s : Sm} (h1 : SqT K H a [.int s.1, .ref b]) (h2 : SqT K H b vs) (h3 : DpAll K H vs (s.2.map prT)) : Dp K H (.ref a) (sumD s) :=
  .tup h1 (.cons (.int _) (.cons (.tup h2 h3) .nil))
theorem DpAll.ints : ∀ {vs : List V} {ns : List Int}, DpAll K H vs (ns.map PyData.int) → vs = ns.map V.int
  | [], [], _ => rfl
  | [], n :: _, h => by cases h
  | v :: vs, [], h => by cases h
  | v :: vs, n :: ns, h => by
    cases h with
    | cons h1 h2 =>
      cases h1
      rw [DpAll.ints h2]
      rfl
theorem DpAll.strs : ∀ {vs : List V} {ns : List Str}, DpAll K H vs (ns.map PyData.str) → vs = ns.map V.str
  | [], [], _ => rfl
  | [], n :: _, h => by cases h
  | v :: vs, [], h => by cases h
  | v :: vs, n :: ns, h => by
    cases h with
    | cons h1 h2 =>
      cases h1
      rw [DpAll.strs h2]
      rfl
theorem DpAll.ofInts : ∀ (ns : List Int), DpAll K H (ns.map V.int) (ns.map PyData.int)
  | [] => .nil
  | n :: ns => .cons (.int n) (DpAll.ofInts ns)
theorem DpAll.ofStrs : ∀ (ns : List Str), DpAll K H (ns.map V.str) (ns.map PyData.str)
  | [] => .nil
  | n :: ns => .cons (.str n) (DpAll.ofStrs ns)
end
end L2
namespace XS
open PySem PySem.Spec PyProof.Rows L2
/-! ### comprehensions: what is built of immutable data -/
def LcJ (J : It) (g : TG) (tt : TT) (te : TE) (vs : List Nat) : TE := tLc (fun _ H' R => R J H') g tt te vs
section
variable {K : PySem.W.Frag} {σ : L2.St} {H : Hp} {te : TE} {tt : TT} {g : TG} {vs : List Nat} {Q : VK} {α : Type}
theorem x_tyes {k : Bool → Hp → Prop} (h : k true H) : tYes σ H k := h
theorem x_lc {wi : TI} (h : wi σ H fun J H1 => LcJ J g tt te vs σ H1 Q) : tLc wi g tt te vs σ H Q := h
/-- the list so far -/
def LcAt (K : PySem.W.Frag) (H : Hp) (Dl : Addr) (ds : List PyData) (H' : Hp) : Prop := H Dl = none ∧ Same H H' ∧ ∃ acc, H' Dl = some (.lst acc) ∧ DpAll K H' acc ds
theorem lcAt_more {Dl : Addr} {ds : List PyData} {H' H4 : Hp} {y : V} {d : PyData} (a : LcAt K H Dl ds H') (e : Same H' H4) (hd : Dp K H4 y d) (im : Im d) (ims : ∀ d ∈ ds, Im d) (hz : ds.length < 100000) :
    ∃ acc, H4 Dl = some (.lst acc) ∧ acc.length < sizeLine ∧ LcAt K H Dl (ds ++ [d]) (upd H4 Dl (.lst (acc ++ [y]))) := by
  obtain ⟨a1, a2, acc, a3, a4⟩ := a
  have k := keeps_lst (ys := acc ++ [y]) (e _ _ a3)
  refine ⟨acc, e _ _ a3, szl (by have := a4.len; omega), a1, same_mut (a2.trans e) a1, acc ++ [y], upd_same, ?_⟩
  exact (DpAll.keeps k ds acc ims (DpAll.same e ds acc a4)).app (.one (Dp.keeps k d y im hd))
theorem take_more {l : List α} {i : Nat} {x : α} (h : l[i]? = some x) : l.take (i + 1) = l.take i ++ [x] := by
  rw [List.take_add_one, h]
  rfl
theorem map_at {β : Type} {zs : List α} {emb : α → β} {i : Nat} {x : β} (h : (zs.map emb)[i]? = some x) : ∃ z, zs[i]? = some z ∧ x = emb z := by
  rw [List.getElem?_map] at h
  cases e : zs[i]? with
  | none => rw [e] at h; cases h
  | some z => rw [e] at h; exact ⟨z, rfl, (Option.some.inj h).symm⟩
/-- one turn, with the continuations left open -/
def LcTurn (K : PySem.W.Frag) (H : Hp) (g : TG) (tt : TT) (te : TE) (σ : L2.St) (vs : List Nat) (x : V) (b : Bool) (d : PyData) : Prop :=
  ∀ (H' : Hp) (Yes : V → Hp → Prop) (No : Hp → Prop), Same H H' → (∀ y H4, Same H' H4 → b = true → Dp K H4 y d → Yes y H4) → (∀ H4, Same H' H4 → b = false → No H4) →
    g x (wipe σ vs) H' fun σ2 H2 => wipe σ2 vs = wipe σ vs ∧ tt σ2 H2 fun b H3 => if b = true then te σ2 H3 Yes else No H3
theorem x_lcL {p : Addr} (zs : List α) (emb : α → V) (f : α → Bool) (dd : α → PyData) (hx : SqL K H p (zs.map emb)) (hz : zs.length < 50000) (im : ∀ z, Im (dd z))
    (turn : ∀ z ∈ zs, LcTurn K H g tt te σ vs (emb z) (f z) (dd z))
    (done : ∀ Dl H' acc, H Dl = none → Same H H' → H' Dl = some (.lst acc) → DpAll K H' acc ((zs.filter f).map dd) → Q (.ref Dl) H') :
    ∃ a, V.ref p = .ref a ∧ (∃ xs, SqL K H a xs) ∧ LcJ (Itl K a) g tt te vs σ H Q := by
  refine ⟨p, rfl, ⟨_, hx⟩, fun Dl hD => lc_list (K := K) (a := p) (xs := zs.map emb) (fun i H' => LcAt K H Dl (((zs.take i).filter f).map dd) H')
    ⟨hD, same_upd hD, [], upd_same, .nil⟩ (fun i H' _ a => a.2.1.seq hx) (fun i x H' hi a => ?_) (fun H' a => ?_)⟩
  · obtain ⟨z, hz1, rfl⟩ := map_at hi
    have hl : (((zs.take i).filter f).map dd).length < 100000 := by
      rw [List.length_map]
      have h1 := List.length_filter_le f (zs.take i)
      rw [List.length_take] at h1
      omega
    refine turn z (List.mem_of_getElem? hz1) H' _ _ a.2.1 (fun y H4 e hf hd => ?_) (fun H4 e hf => ?_)
    · have := lcAt_more a e hd (im z) (fun d hd => by obtain ⟨q, _, rfl⟩ := List.mem_map.mp hd; exact im q) hl
      rw [take_more hz1, List.filter_append, List.map_append, List.filter_cons, if_pos hf]
      exact this
    · rw [take_more hz1, List.filter_append, List.map_append, List.filter_cons, if_neg (by rw [hf]; exact Bool.false_ne_true)]
      show LcAt K H Dl (_ ++ []) H4
      rw [List.append_nil]
      obtain ⟨a1, a2, acc, a3, a4⟩ := a
      exact ⟨a1, a2.trans e, acc, e _ _ a3, DpAll.same e _ _ a4⟩
  · obtain ⟨a1, a2, acc, a3, a4⟩ := a
    rw [List.length_map, List.take_length] at a4
    exact done Dl H' acc a1 a2 a3 a4
theorem x_lcT {p : Addr} (zs : List α) (ws : List V) (f : α → Bool) (dd : α → PyData) (hx : SqT K H p ws) (hl : ws.length = zs.length) (hz : zs.length < 50000) (im : ∀ z, Im (dd z))
    (turn : ∀ (i : Nat) (z : α) (w : V), zs[i]? = some z → ws[i]? = some w → LcTurn K H g tt te σ vs w (f z) (dd z))
    (done : ∀ Dl H' acc, H Dl = none → Same H H' → H' Dl = some (.lst acc) → DpAll K H' acc ((zs.filter f).map dd) → Q (.ref Dl) H') :
    ∃ a, V.ref p = .ref a ∧ (∃ xs, SqT K H a xs) ∧ LcJ (Itt K a) g tt te vs σ H Q := by
  refine ⟨p, rfl, ⟨_, hx⟩, fun Dl hD => lc_tup (K := K) (a := p) (xs := ws) (fun i H' => LcAt K H Dl (((zs.take i).filter f).map dd) H')
    ⟨hD, same_upd hD, [], upd_same, .nil⟩ (fun i H' _ a => a.2.1.seqT hx) (fun i x H' hi a => ?_) (fun H' a => ?_)⟩
  · have hlt : i < zs.length := by rw [← hl]; exact (List.getElem?_eq_some_iff.mp hi).1
    have hz1 : zs[i]? = some zs[i] := List.getElem?_eq_getElem hlt
    have hl : (((zs.take i).filter f).map dd).length < 100000 := by
      rw [List.length_map]
      have h1 := List.length_filter_le f (zs.take i)
      rw [List.length_take] at h1
      omega
    refine turn i zs[i] x hz1 hi H' _ _ a.2.1 (fun y H4 e hf hd => ?_) (fun H4 e hf => ?_)
    · have := lcAt_more a e hd (im zs[i]) (fun d hd => by obtain ⟨q, _, rfl⟩ := List.mem_map.mp hd; exact im q) hl
      rw [take_more hz1, List.filter_append, List.map_append, List.filter_cons, if_pos hf]
      exact this
    · rw [take_more hz1, List.filter_append, List.map_append, List.filter_cons, if_neg (by rw [hf]; exact Bool.false_ne_true)]
      show LcAt K H Dl (_ ++ []) H4
      rw [List.append_nil]
      obtain ⟨a1, a2, acc, a3, a4⟩ := a
      exact ⟨a1, a2.trans e, acc, e _ _ a3, DpAll.same e _ _ a4⟩
  · obtain ⟨a1, a2, acc, a3, a4⟩ := a
    rw [hl, List.take_length] at a4
    exact done Dl H' acc a1 a2 a3 a4
theorem x_lcW {p : Addr} (zs : List α) (ws : List V) (f : α → Bool) (dd : α → PyData) (hx : SqL K H p ws) (hl : ws.length = zs.length) (hz : zs.length < 50000) (im : ∀ z, Im (dd z))
    (turn : ∀ (i : Nat) (z : α) (w : V), zs[i]? = some z → ws[i]? = some w → LcTurn K H g tt te σ vs w (f z) (dd z))
    (done : ∀ Dl H' acc, H Dl = none → Same H H' → H' Dl = some (.lst acc) → DpAll K H' acc ((zs.filter f).map dd) → Q (.ref Dl) H') :
    ∃ a, V.ref p = .ref a ∧ (∃ xs, SqL K H a xs) ∧ LcJ (Itl K a) g tt te vs σ H Q := by
  refine ⟨p, rfl, ⟨_, hx⟩, fun Dl hD => lc_list (K := K) (a := p) (xs := ws) (fun i H' => LcAt K H Dl (((zs.take i).filter f).map dd) H')
    ⟨hD, same_upd hD, [], upd_same, .nil⟩ (fun i H' _ a => a.2.1.seq hx) (fun i x H' hi a => ?_) (fun H' a => ?_)⟩
  · have hlt : i < zs.length := by rw [← hl]; exact (List.getElem?_eq_some_iff.mp hi).1
    have hz1 : zs[i]? = some zs[i] := List.getElem?_eq_getElem hlt
    have hl : (((zs.take i).filter f).map dd).length < 100000 := by
      rw [List.length_map]
      have h1 := List.length_filter_le f (zs.take i)
      rw [List.length_take] at h1
      omega
    refine turn i zs[i] x hz1 hi H' _ _ a.2.1 (fun y H4 e hf hd => ?_) (fun H4 e hf => ?_)
    · have := lcAt_more a e hd (im zs[i]) (fun d hd => by obtain ⟨q, _, rfl⟩ := List.mem_map.mp hd; exact im q) hl
      rw [take_more hz1, List.filter_append, List.map_append, List.filter_cons, if_pos hf]
      exact this
    · rw [take_more hz1, List.filter_append, List.map_append, List.filter_cons, if_neg (by rw [hf]; exact Bool.false_ne_true)]
      show LcAt K H Dl (_ ++ []) H4
      rw [List.append_nil]
      obtain ⟨a1, a2, acc, a3, a4⟩ := a
      exact ⟨a1, a2.trans e, acc, e _ _ a3, DpAll.same e _ _ a4⟩
  · obtain ⟨a1, a2, acc, a3, a4⟩ := a
    rw [hl, List.take_length] at a4
    exact done Dl H' acc a1 a2 a3 a4
theorem x_lcR1 {n : Int} (f : Nat → Bool) (dd : Nat → PyData) (hb : 0 ≤ n ∧ n < 50000) (im : ∀ z, Im (dd z))
    (turn : ∀ z : Nat, (z : Int) < n → LcTurn K H g tt te σ vs (.int z) (f z) (dd z))
    (done : ∀ Dl H' acc, H Dl = none → Same H H' → H' Dl = some (.lst acc) → DpAll K H' acc (((List.range n.toNat).filter f).map dd) → Q (.ref Dl) H') :
    ∃ j : Int, [V.int n] = [.int j] ∧ -(2 ^ 62) ≤ j ∧ j < 2 ^ 62 ∧ LcJ (Itr 0 j.toNat) g tt te vs σ H Q := by
  refine ⟨n, rfl, by omega, by omega, fun Dl hD => lc_range (lo := 0) (n := n.toNat) (fun i H' => LcAt K H Dl (((List.range i).filter f).map dd) H')
    ⟨hD, same_upd hD, [], upd_same, .nil⟩ (fun i H' hi a => ?_) (fun H' a => ?_)⟩
  · have hl : (((List.range i).filter f).map dd).length < 100000 := by
      rw [List.length_map]
      have h1 := List.length_filter_le f (List.range i)
      rw [List.length_range] at h1
      omega
    rw [Int.zero_add]
    refine turn i (by omega) H' _ _ a.2.1 (fun y H4 e hf hd => ?_) (fun H4 e hf => ?_)
    · have := lcAt_more a e hd (im i) (fun d hd => by obtain ⟨q, _, rfl⟩ := List.mem_map.mp hd; exact im q) hl
      rw [List.range_succ, List.filter_append, List.map_append, List.filter_cons, if_pos hf]
      exact this
    · rw [List.range_succ, List.filter_append, List.map_append, List.filter_cons, if_neg (by rw [hf]; exact Bool.false_ne_true)]
      show LcAt K H Dl (_ ++ []) H4
      rw [List.append_nil]
      obtain ⟨a1, a2, acc, a3, a4⟩ := a
      exact ⟨a1, a2.trans e, acc, e _ _ a3, DpAll.same e _ _ a4⟩
  · obtain ⟨a1, a2, acc, a3, a4⟩ := a
    exact done Dl H' acc a1 a2 a3 a4
/-- a comprehension's block ends where it began -/
theorem x_lcNo {k : Bool → Hp → Prop} {σ2 : L2.St} {A : Prop} (h1 : A) (h : k true H) : A ∧ tYes σ2 H k := ⟨h1, h⟩
end
/-! ### dicts from texts to ints -/
def dOf (m : List Pr) : List (Key × V) := m.map fun p => (Sum.inr p.1, V.int p.2)
def getP (m : List Pr) (x : Str) : Option Int := (m.find? fun p => decide (p.1 = x)).map (·.2)
def putP (m : List Pr) (x : Str) (v : Int) : List Pr := if (m.any fun p => decide (p.1 = x)) = true then m.map (fun p => if p.1 = x then (p.1, v) else p) else m ++ [(x, v)]
theorem dOf_keys (m : List Pr) : (dOf m).map (·.1) = (m.map (·.1)).map Sum.inr := by
  unfold dOf
  rw [List.map_map, List.map_map]
  rfl
theorem dOf_len (m : List Pr) : (dOf m).length = m.length := List.length_map _
theorem inr_dec (x y : Str) : decide ((Sum.inr x : Key) = Sum.inr y) = decide (x = y) := by
  by_cases e : x = y
  · subst e; simp
  · rw [decide_eq_false e, decide_eq_false (fun q => e (Sum.inr.inj q))]
theorem dOf_val (m : List Pr) (x : Str) : valV (dOf m) (Sum.inr x : Key) = (getP m x).map V.int := by
  unfold valV dOf getP
  rw [List.find?_map]
  have : ((fun kv : Key × V => decide (kv.1 = Sum.inr x)) ∘ fun p : Pr => ((Sum.inr p.1 : Key), V.int p.2)) = fun p : Pr => decide (p.1 = x) := by
    funext p
    exact inr_dec _ _
  rw [this, Option.map_map, Option.map_map]
  rfl
theorem dOf_put (m : List Pr) (x : Str) (v : Int) : putK (dOf m) (Sum.inr x : Key) (V.int v) = dOf (putP m x v) := by
  unfold putK putP dOf
  have : ((List.map (fun p : Pr => ((Sum.inr p.1 : Key), V.int p.2)) m).any fun kv => decide (kv.1 = Sum.inr x)) = m.any fun p => decide (p.1 = x) := by
    rw [List.any_map]
    congr 1
    funext p
    exact inr_dec _ _
  rw [this]
  split
  · rw [List.map_map, List.map_map]
    refine List.map_congr_left fun p _ => ?_
    show (if (Sum.inr p.1 : Key) = Sum.inr x then _ else _) = _
    by_cases e : p.1 = x
    · rw [if_pos (by rw [e])]
      show _ = (Sum.inr (if p.1 = x then (p.1, v) else p).1, V.int (if p.1 = x then (p.1, v) else p).2)
      rw [if_pos e]
    · rw [if_neg (fun q => e (Sum.inr.inj q))]
      show _ = (Sum.inr (if p.1 = x then (p.1, v) else p).1, V.int (if p.1 = x then (p.1, v) else p).2)
      rw [if_neg e]
  · rw [List.map_append]
    rfl
theorem getP_any (m : List Pr) (x : Str) : (m.any fun p => decide (p.1 = x)) = decide (x ∈ m.map (·.1)) := by
  rw [Bool.eq_iff_iff]
  simp only [List.any_eq_true, decide_eq_true_eq, List.mem_map]
  
theorem putP_names (m : List Pr) (x : Str) (v : Int) : (putP m x v).map (·.1) = if x ∈ m.map (·.1) then m.map (·.1) else m.map (·.1) ++ [x] := by
  unfold putP
  rw [getP_any]
  by_cases e : x ∈ m.map (·.1)
  · rw [if_pos (by simpa using e), if_pos e, List.map_map]
    refine List.map_congr_left fun p _ => ?_
    show (if p.1 = x then (p.1, v) else p).1 = p.1
    split <;> rfl
  · rw [if_neg (by simpa using e), if_neg e, List.map_append]
    rfl
theorem putP_nd {m : List Pr} {x : Str} {v : Int} (nd : (m.map (·.1)).Nodup) : ((putP m x v).map (·.1)).Nodup := by
  rw [putP_names]
  split
  · exact nd
  · rename_i h
    refine List.nodup_append.mpr ⟨nd, by simp, fun a ha b hb => ?_⟩
    simp at hb
    subst hb
    intro e
    subst e
    exact h ha
theorem putP_len (m : List Pr) (x : Str) (v : Int) : (putP m x v).length ≤ m.length + 1 := by
  have := congrArg List.length (putP_names m x v)
  rw [List.length_map] at this
  rw [this]
  split
  · rw [List.length_map]; omega
  · rw [List.length_append, List.length_map]; exact Nat.le_refl _
theorem getP_put (m : List Pr) (x y : Str) (v : Int) : getP (putP m x v) y = if y = x then some v else getP m y := by
  have h := valV_put (dOf m) (Sum.inr x : Key) (Sum.inr y) (V.int v)
  rw [dOf_put, dOf_val, dOf_val] at h
  by_cases e : y = x
  · rw [if_pos (by rw [e])] at h
    rw [if_pos e]
    cases q : getP (putP m x v) y with
    | none => rw [q] at h; cases h
    | some z => rw [q] at h; cases h; rfl
  · rw [if_neg (fun q => e (Sum.inr.inj q))] at h
    rw [if_neg e]
    cases q : getP (putP m x v) y with
    | none =>
      rw [q] at h
      cases q2 : getP m y with
      | none => rfl
      | some z => rw [q2] at h; cases h
    | some z =>
      rw [q] at h
      cases q2 : getP m y with
      | none => rw [q2] at h; cases h
      | some z2 => rw [q2] at h; cases h; rfl
theorem getP_some {m : List Pr} {x : Str} : (getP m x).isSome = decide (x ∈ m.map (·.1)) := by
  rw [← getP_any]
  unfold getP
  rw [Option.isSome_map]
  induction m with
  | nil => rfl
  | cons p m ih =>
    rw [List.find?_cons, List.any_cons]
    cases h : decide (p.1 = x) with
    | true => rfl
    | false => rw [Bool.false_or]; exact ih
section
variable {K : PySem.W.Frag} {σ : L2.St} {H : Hp} {td ty tx tv : TE} {Q : VK} {D : Ends} {u : TS}
theorem x_dput (h : tv σ H fun v H1 => td σ H1 fun x H2 => ty σ H2 fun y H3 => ∃ a H4, x = .ref a ∧ DPut H3 a y v H4 ∧ D.nx σ H4) : sDPut td ty tv D σ H := h
theorem x_sdput (h : tv σ H fun v H1 => td σ H1 fun x H2 => ty σ H2 fun y H3 => ∃ a H4, x = .ref a ∧ DPut H3 a y v H4 ∧ u D σ H4) : tSeq (sDPut td ty tv) u D σ H := h
theorem x_dget2 (h : td σ H fun x H1 => ∃ a, x = .ref a ∧ IsD H1 a ∧ ty σ H1 fun y H2 => tx σ H2 fun z H3 => ∃ o, DGet H3 a y o ∧ Q (o.getD z) H3) : tDGet2 td ty tx σ H Q := h
theorem x_dget (h : td σ H fun x H1 => ty σ H1 fun y H2 => ∃ a v, x = .ref a ∧ DGet H2 a y (some v) ∧ Q v H2) : tDGet td ty σ H Q := h
theorem x_dnew (h : ∀ p, H p = none → Q (.ref p) (upd H p (.dK []))) : tDNewK σ H Q := h
theorem x_din (h : ty σ H fun y H1 => td σ H1 fun x H2 => ∃ a o, x = .ref a ∧ DGet H2 a y o ∧ Q (.bl o.isSome) H2) : tDIn ty td σ H Q := h
theorem x_dnotin (h : ty σ H fun y H1 => td σ H1 fun x H2 => ∃ a o, x = .ref a ∧ DGet H2 a y o ∧ Q (.bl (!o.isSome)) H2) : tDNotIn ty td σ H Q := h
end
end XS
namespace XS
open PySem PySem.Spec PyProof.Rows L2
/-- the shares so far -/
structure Shares (ps m : List Pr) : Prop where
  nd : (m.map (·.1)).Nodup
  mem : ∀ x, x ∈ m.map (·.1) ↔ x ∈ ps.map (·.1)
  val : ∀ x, (getP m x).getD 0 = shr ps x
  len : m.length ≤ ps.length
theorem Shares.nil : Shares [] [] := ⟨List.nodup_nil, fun x => Iff.rfl, fun x => rfl, Nat.le_refl _⟩
theorem Shares.more {ps m : List Pr} {p : Pr} (S : Shares ps m) : Shares (ps ++ [p]) (putP m p.1 ((getP m p.1).getD 0 + p.2)) := by
  refine ⟨putP_nd S.nd, fun x => ?_, fun x => ?_, ?_⟩
  · rw [putP_names, List.map_append, List.mem_append, ← S.mem x]
    split
    · rename_i h
      constructor
      · exact .inl
      · rintro (h2 | h2)
        · exact h2
        · simp at h2
          subst h2
          exact h
    · rw [List.mem_append]
      rfl
  · rw [getP_put, shr_app, shr_cons, shr_nil, Int.add_zero]
    by_cases e : x = p.1
    · subst e
      rw [if_pos rfl, if_pos rfl, ← S.val]
      rfl
    · rw [if_neg e, if_neg (fun q => e q.symm), S.val, Int.add_zero]
  · have h1 := putP_len m p.1 ((getP m p.1).getD 0 + p.2)
    have h2 := S.len
    rw [List.length_append]
    show _ ≤ ps.length + 1
    omega
theorem Shares.keptOf {ps m : List Pr} {ys : List Str} (S : Shares ps m) (hp : ys.Perm (m.map (·.1))) (hs : sortedS ys = true) : Norm (kept ys (shr ps)) ∧ (∀ x, shr (kept ys (shr ps)) x = shr ps x) ∧ ∀ x ∈ (kept ys (shr ps)).map (·.1), x ∈ ps.map (·.1) := by
  have r : Rising ys := rising_of (hp.nodup_iff.mpr S.nd) hs
  refine ⟨kept_norm r, fun x => kept_shr r (fun y hy => shr_out fun h => hy (hp.mem_iff.mpr ((S.mem y).mpr h))) x, fun x hx => ?_⟩
  rw [kept_names] at hx
  exact (S.mem x).mp (hp.mem_iff.mp (List.mem_filter.mp hx).1)
end XS

namespace XS
open PySem PySem.Spec PyProof.Rows L2
/-- the built-in names are not hidden by the module -/
structure Bl (mg : Str → Option Value) : Prop where
  ValueError : mg "ValueError" = none
  len : mg "len" = none
  isinstance : mg "isinstance" = none
  int : mg "int" = none
  str : mg "str" = none
  bool : mg "bool" = none
  list : mg "list" = none
  tuple : mg "tuple" = none
  dict : mg "dict" = none
  set : mg "set" = none
  range : mg "range" = none
  sorted : mg "sorted" = none
  sum : mg "sum" = none
/-- the script's cell, 0 behind its end -/
def cell (ns : List Int) (k : Int) : Int := if k < ns.length then ns.getD k.toNat 0 else 0
def sp_cell_at (K : PySem.W.Frag) : Sp := fun vs H Q _ => ∃ (a : Addr) (ns : List Int) (k : Int), vs = [.ref a, .int k] ∧ 0 ≤ k ∧ SqL K H a (ns.map V.int) ∧ Q (.int (cell ns k)) H
theorem atI_map {ns : List Int} {k : Int} (h0 : 0 ≤ k) (h : k < ns.length) : atI (ns.map V.int) k = some (.int (ns.getD k.toNat 0)) := by
  obtain ⟨j, rfl⟩ := Int.eq_ofNat_of_zero_le h0
  refine atI_nat ?_
  have hj : j < ns.length := by omega
  rw [List.getElem?_map, List.getElem?_eq_getElem hj]
  simp [List.getD, List.getElem?_eq_getElem hj]
end XS
namespace XS
open PySem PySem.Spec PyProof.Rows L2
section
variable {K : PySem.W.Frag} {H : Hp} {Q : VK} {x y : V}
theorem x_isi {a b : String} {r : Bool} (ty : TyX K H x (.type a)) (e : kitB a b = some r) (q : Q (.bl r) H) : rIsi K [x, .ty b] H Q := ⟨x, .ty b, .type a, .type b, r, rfl, .ty b, ty, kit_ty e, q⟩
theorem k_int_str : kitB "int" "str" = some false := by decide +kernel
theorem k_int_int : kitB "int" "int" = some true := by decide +kernel
theorem k_int_bool : kitB "int" "bool" = some false := by decide +kernel
theorem k_str_str : kitB "str" "str" = some true := by decide +kernel
theorem k_str_int : kitB "str" "int" = some false := by decide +kernel
theorem k_tup_str : kitB "tuple" "str" = some false := by decide +kernel
theorem k_tup_int : kitB "tuple" "int" = some false := by decide +kernel
theorem k_tup_tup : kitB "tuple" "tuple" = some true := by decide +kernel
theorem k_tup_lst : kitB "tuple" "list" = some false := by decide +kernel
theorem k_lst_str : kitB "list" "str" = some false := by decide +kernel
theorem k_lst_int : kitB "list" "int" = some false := by decide +kernel
theorem k_lst_tup : kitB "list" "tuple" = some false := by decide +kernel
theorem k_lst_lst : kitB "list" "list" = some true := by decide +kernel
theorem k_bool_bool : kitB "bool" "bool" = some true := by decide +kernel
theorem k_bool_int : kitB "bool" "int" = some true := by decide +kernel
theorem k_bool_str : kitB "bool" "str" = some false := by decide +kernel
theorem x_is_no {b : Bool} (hx : x ≠ .bl b) (q : Q (.bl false) H) : rIsC x (.bl b) H Q := ⟨b, rfl, by rw [decide_eq_false hx]; exact q⟩
theorem x_is_yes {b : Bool} (q : Q (.bl true) H) : rIsC (.bl b) (.bl b) H Q := ⟨b, rfl, by rw [decide_eq_true rfl]; exact q⟩
end
/-- the first item of a sequence of the kind that d tells, by its place -/
theorem atI_get {xs : List V} {i : Nat} {v : V} (h : xs[i]? = some v) : atI xs (i : Int) = some v := atI_nat h
/-- the numbers by a mix -/
def mixN (m : Int) : Int := (m * 48271 + 11) % 2147483647
theorem mixN_b (m : Int) : 0 ≤ mixN m ∧ mixN m < 2147483647 := ⟨Int.emod_nonneg _ (by decide), Int.emod_lt_of_pos _ (by decide)⟩
def bigTurn (s : Int × Int) : Int × Int := (s.1 * 10 + mixN s.2 / 7 % 10, mixN s.2)
def bigRun : Nat → Int × Int → Int × Int
  | 0, s => s
  | n + 1, s => bigTurn (bigRun n s)
def bigBy (c : Int) : Int := if 0 < c % 4 then c / 4 % 19 - 9 else (if c / 4 % 2 = 0 then 1 else -1) * (bigRun (1 + c / 8 % 60).toNat (0, c)).1
theorem bigRun_b (c : Int) : ∀ n, 0 ≤ (bigRun n (0, c)).1 ∧ (bigRun n (0, c)).1 < 10 ^ n
  | 0 => by
    show (0 : Int) ≤ 0 ∧ (0 : Int) < 10 ^ 0
    decide
  | n + 1 => by
    obtain ⟨h1, h2⟩ := bigRun_b c n
    show 0 ≤ (bigRun n (0, c)).1 * 10 + mixN (bigRun n (0, c)).2 / 7 % 10 ∧ (bigRun n (0, c)).1 * 10 + mixN (bigRun n (0, c)).2 / 7 % 10 < 10 ^ (n + 1)
    have h3 : 0 ≤ mixN (bigRun n (0, c)).2 / 7 % 10 := Int.emod_nonneg _ (by decide)
    have h4 : mixN (bigRun n (0, c)).2 / 7 % 10 < 10 := Int.emod_lt_of_pos _ (by decide)
    rw [Int.pow_succ]
    constructor <;> omega
theorem bigBy_b (c : Int) : (bigBy c).natAbs < 10 ^ 60 := by
  unfold bigBy
  split
  · have h3 : 0 ≤ c / 4 % 19 := Int.emod_nonneg _ (by decide)
    have h4 : c / 4 % 19 < 19 := Int.emod_lt_of_pos _ (by decide)
    have : (c / 4 % 19 - 9).natAbs < 20 := by omega
    exact Nat.lt_of_lt_of_le this (by decide)
  · have h3 : 0 ≤ c / 8 % 60 := Int.emod_nonneg _ (by decide)
    have h4 : c / 8 % 60 < 60 := Int.emod_lt_of_pos _ (by decide)
    obtain ⟨h1, h2⟩ := bigRun_b c (1 + c / 8 % 60).toNat
    have h5 : (10 : Int) ^ (1 + c / 8 % 60).toNat ≤ 10 ^ 60 := by
      have : (1 + c / 8 % 60).toNat ≤ 60 := by omega
      have h6 : (10 : Nat) ^ (1 + c / 8 % 60).toNat ≤ 10 ^ 60 := Nat.pow_le_pow_right (by decide) this
      exact_mod_cast h6
    have h7 : (bigRun (1 + c / 8 % 60).toNat (0, c)).1.natAbs < 10 ^ 60 := by omega
    split
    · rw [Int.one_mul]; exact h7
    · rw [Int.neg_one_mul, Int.natAbs_neg]; exact h7
def sp_whole : Sp := fun vs H Q _ => ∃ i : Int, vs = [.int i] ∧ Q (.bl true) H
def sp_big_by : Sp := fun vs H Q _ => ∃ c : Int, vs = [.int c] ∧ ∀ H', Same H H' → Q (.int (bigBy c)) H'
def sp_alike (n : Nat) (K : PySem.W.Frag) : Sp := fun vs H Q _ => ∃ (g e : V) (d : PyData) (k : Nat), vs = [g, e] ∧ n = k + 1 ∧ Dp K H g d ∧ Dp K H e d ∧ Al k d ∧ Q (.bl true) H
def sp_share (K : PySem.W.Frag) : Sp := fun vs H Q _ => ∃ (v : V) (s : Sm) (x : Str), vs = [v, .str x] ∧ Dp K H v (sumD s) ∧ (s.2.map (·.1)).Nodup ∧ Q (.int (shr s.2 x)) H
/-- made's: pairs in any order, fewer than 64 -/
def sp_made (K : PySem.W.Frag) : Sp := fun vs H Q _ => ∃ (n : Int) (v : V) (ps : List Pr), vs = [.int n, v] ∧ Dp K H v (.list (ps.map prT)) ∧ ps.length < 64 ∧
  ∀ t H' out, Same H H' → Norm out → (∀ x, shr out x = shr ps x) → (∀ x ∈ out.map (·.1), x ∈ ps.map (·.1)) → Dp K H' (.ref t) (sumD (n, out)) → Q (.ref t) H'
def sp_law (K : PySem.W.Frag) : Sp := fun vs H Q _ => ∃ (a : Addr) (ns : List Int), vs = [.ref a] ∧ SqL K H a (ns.map V.int) ∧ ns.length ≤ 63 ∧ ∀ H', Q (.bl true) H'
end XS

namespace XS
open PySem PySem.Spec PyProof.Rows L2
/-! ### the four names -/
/-- a text of codes -/
def tx (l : List Nat) : Str := ⟨l.toArray⟩
theorem tx_cps (l : List Nat) : (tx l).cps.toList = l := by simp [tx]
theorem tx_len (l : List Nat) : (tx l).length = l.length := by show l.toArray.size = l.length; simp
theorem tx_inj {a b : List Nat} (h : tx a = tx b) : a = b := by have := congrArg (fun s : Str => s.cps.toList) h; simpa [tx] using this
theorem tx_app (a b : List Nat) : tx a ++ tx b = tx (a ++ b) := by
  refine str_ext ?_
  show (a.toArray ++ b.toArray).toList = _
  simp [tx]
theorem tx_cut0 (l : List Nat) (k : Nat) : cutS (tx l) none (some (k : Int)) = tx (l.take k) := by
  refine str_ext ?_
  show (((tx l).cps.toList.drop _).take _).toArray.toList = _
  rw [tx_cps, tx_cps, tx_len, HT.sIx_none, HT.sIx_nat]
  simp
theorem tx_cut1 (l : List Nat) (k : Nat) : cutS (tx l) (some (k : Int)) none = tx (l.drop k) := by
  refine str_ext ?_
  show (((tx l).cps.toList.drop _).take _).toArray.toList = _
  rw [tx_cps, tx_cps, tx_len, HT.sIx_none, HT.sIx_nat]
  simp
  rcases Nat.le_total k l.length with h | h
  · rw [Nat.min_eq_left h, List.take_of_length_le (by rw [List.length_drop]; exact Nat.le_refl _)]
  · rw [Nat.min_eq_right h, List.drop_eq_nil_of_le h]
    simp
theorem tx_rep (l : List Nat) (n : Nat) : repS (tx l) n = tx (List.replicate n l).flatten := by
  unfold repS
  rw [tx_cps]
  rfl
def abc : Str := "abcdefghijklmnopqrstuvwxyz"
theorem abc_cps : abc.cps.toList = (List.range 26).map (97 + ·) := by decide +kernel
theorem abc_len : abc.length = 26 := by decide +kernel
/-- the code of the letter by a number -/
def lc (n : Int) : Nat := 97 + (n % 26).toNat
theorem lc_b (n : Int) : 97 ≤ lc n ∧ lc n ≤ 122 := by
  have h1 : 0 ≤ n % 26 := Int.emod_nonneg _ (by decide)
  have h2 : n % 26 < 26 := Int.emod_lt_of_pos _ (by decide)
  unfold lc
  omega
theorem abc_at (n : Int) : atI abc.cps.toList (n % 26) = some (lc n) := by
  have h1 : 0 ≤ n % 26 := Int.emod_nonneg _ (by decide)
  have h2 : n % 26 < 26 := Int.emod_lt_of_pos _ (by decide)
  unfold lc
  obtain ⟨j, hj⟩ := Int.eq_ofNat_of_zero_le h1
  rw [hj]
  refine atI_nat ?_
  rw [abc_cps, List.getElem?_map, List.getElem?_range (by omega)]
  simp
/-- small letters, 1 to 8 -/
def Word (l : List Nat) : Prop := 1 ≤ l.length ∧ l.length ≤ 8 ∧ ∀ c ∈ l, 97 ≤ c ∧ c ≤ 122
def wordRun (c : Int) : Nat → List Nat × Int
  | 0 => ([], c)
  | n + 1 => ((wordRun c n).1 ++ [lc (mixN (wordRun c n).2 / 7)], mixN (wordRun c n).2)
theorem wordRun_len (c : Int) : ∀ n, (wordRun c n).1.length = n
  | 0 => rfl
  | n + 1 => by
    show ((wordRun c n).1 ++ [_]).length = n + 1
    rw [List.length_append, wordRun_len c n]
    rfl
theorem wordRun_abc (c : Int) : ∀ n, ∀ x ∈ (wordRun c n).1, 97 ≤ x ∧ x ≤ 122
  | 0, _, h => by cases h
  | n + 1, x, h => by
    rcases List.mem_append.mp h with h | h
    · exact wordRun_abc c n x h
    · simp at h
      subst h
      exact lc_b _
def sizeBy (c : Int) : Nat := (1 + c % 8).toNat
theorem sizeBy_b (c : Int) : 1 ≤ sizeBy c ∧ sizeBy c ≤ 8 ∧ (sizeBy c : Int) = 1 + c % 8 := by
  have h1 : 0 ≤ c % 8 := Int.emod_nonneg _ (by decide)
  have h2 : c % 8 < 8 := Int.emod_lt_of_pos _ (by decide)
  unfold sizeBy
  omega
def wordBy (c : Int) : List Nat := (wordRun c (sizeBy c)).1
theorem wordBy_ok (c : Int) : Word (wordBy c) := by
  have h := sizeBy_b c
  refine ⟨?_, ?_, wordRun_abc c _⟩ <;> (unfold wordBy; rw [wordRun_len]; omega)
theorem wordBy_len (c : Int) : (wordBy c).length = sizeBy c := wordRun_len c _
/-- the usual names -/
def usual : List Str := ["new", "k", "t", "x", "y", "z", "step", "size", "bound", "some", "and", "above", "nought", "goes", "not", "or", "all", "far", "low", "high", "name", "newone", "number", "it", "lined"]
theorem usual_len : usual.length = 25 := rfl
theorem usual_nd : usual.Nodup := by decide +kernel
def wordB (l : List Nat) : Bool := decide (1 ≤ l.length) && decide (l.length ≤ 8) && l.all fun c => decide (97 ≤ c) && decide (c ≤ 122)
theorem word_of {l : List Nat} (h : wordB l = true) : Word l := by
  unfold wordB at h
  simp only [Bool.and_eq_true, decide_eq_true_eq, List.all_eq_true] at h
  exact ⟨h.1.1, h.1.2, h.2⟩
theorem usual_all : (usual.all fun s => wordB s.cps.toList) = true := by decide +kernel
theorem usual_ok {s : Str} (h : s ∈ usual) : Word s.cps.toList := word_of (List.all_eq_true.mp usual_all s h)
def offs : Nat → Int
  | 0 => 0 | 1 => 7 | 2 => 12 | _ => 18
def spotBy (c : Int) : Nat := (c / 24 % (1 + c % 8)).toNat
theorem spotBy_b (c : Int) : spotBy c < sizeBy c ∧ (spotBy c : Int) = c / 24 % (1 + c % 8) := by
  have h1 : 0 ≤ c % 8 := Int.emod_nonneg _ (by decide)
  have h3 : 0 ≤ c / 24 % (1 + c % 8) := Int.emod_nonneg _ (by omega)
  have h4 : c / 24 % (1 + c % 8) < 1 + c % 8 := Int.emod_lt_of_pos _ (by omega)
  unfold spotBy sizeBy
  omega
def nameBy (c : Int) (k : Nat) : Str :=
  if c / 8 % 3 = 2 then tx (List.replicate (1 + (k + c / 24) % 8).toNat ((wordBy c).take 1)).flatten
  else if c / 8 % 9 = 1 ∨ c / 8 % 9 = 4 ∨ c / 8 % 9 = 7 then usual.getD ((c / 72 + offs k) % 25).toNat ""
  else tx ((wordBy c).take (spotBy c) ++ [lc (c / 192 + 7 * k)] ++ (wordBy c).drop (spotBy c + 1))
def namesBy (c : Int) : List Str := (List.range 4).map (nameBy c)
theorem namesBy_eq (c : Int) : namesBy c = [nameBy c 0, nameBy c 1, nameBy c 2, nameBy c 3] := rfl
theorem namesBy_len (c : Int) : (namesBy c).length = 4 := rfl
theorem usualAt (c : Int) (k : Nat) : ((c / 72 + offs k) % 25).toNat < 25 := by
  have h1 : 0 ≤ (c / 72 + offs k) % 25 := Int.emod_nonneg _ (by decide)
  have h2 : (c / 72 + offs k) % 25 < 25 := Int.emod_lt_of_pos _ (by decide)
  omega
theorem take1_eq (c : Int) : ∃ a, (wordBy c).take 1 = [a] ∧ 97 ≤ a ∧ a ≤ 122 := by
  have h := wordBy_ok c
  cases e : wordBy c with
  | nil => have := h.1; rw [e] at this; simp at this
  | cons a r =>
    refine ⟨a, rfl, h.2.2 a (by rw [e]; exact List.mem_cons_self ..)⟩
theorem flat_one (n a : Nat) : (List.replicate n [a]).flatten = List.replicate n a := by
  induction n with
  | zero => rfl
  | succ n ih => rw [List.replicate_succ, List.flatten_cons, ih]; rfl
theorem nameBy_ok (c : Int) (k : Nat) : Word (nameBy c k).cps.toList := by
  unfold nameBy
  split
  · obtain ⟨a, e, ha⟩ := take1_eq c
    have h1 : 0 ≤ (k + c / 24) % 8 := Int.emod_nonneg _ (by decide)
    have h2 : (k + c / 24) % 8 < 8 := Int.emod_lt_of_pos _ (by decide)
    rw [tx_cps, e, flat_one]
    refine ⟨?_, ?_, fun x hx => ?_⟩
    · rw [List.length_replicate]; omega
    · rw [List.length_replicate]; omega
    · rw [(List.mem_replicate.mp hx).2]; exact ha
  · split
    · rw [List.getD_eq_getElem?_getD, List.getElem?_eq_getElem (by rw [usual_len]; exact usualAt c k)]
      exact usual_ok (List.getElem_mem _)
    · have h := wordBy_ok c
      have hs := spotBy_b c
      have hl := wordBy_len c
      have hz := sizeBy_b c
      rw [tx_cps]
      refine ⟨?_, ?_, fun x hx => ?_⟩
      · rw [List.length_append, List.length_append]; simp; omega
      · rw [List.length_append, List.length_append, List.length_take, List.length_drop]; simp; omega
      · rcases List.mem_append.mp hx with hx | hx
        · rcases List.mem_append.mp hx with hx | hx
          · exact h.2.2 x (List.mem_of_mem_take hx)
          · simp at hx; subst hx; exact lc_b _
        · exact h.2.2 x (List.mem_of_mem_drop hx)
theorem nd_inj {α : Type} {l : List α} (nd : l.Nodup) {i j : Nat} (hi : i < l.length) (hj : j < l.length) (e : l[i] = l[j]) : i = j := by
  rcases Nat.lt_trichotomy i j with h | h | h
  · exact absurd e (List.pairwise_iff_getElem.mp nd i j hi hj h)
  · exact h
  · exact absurd e.symm (List.pairwise_iff_getElem.mp nd j i hj hi h)
theorem nameBy_ne (c : Int) {j k : Nat} (hj : j < k) (hk : k < 4) : nameBy c j ≠ nameBy c k := by
  intro e
  unfold nameBy at e
  by_cases h1 : c / 8 % 3 = 2
  · rw [if_pos h1, if_pos h1] at e
    obtain ⟨a, ea, ha⟩ := take1_eq c
    rw [ea, flat_one, flat_one] at e
    have := congrArg List.length (tx_inj e)
    rw [List.length_replicate, List.length_replicate] at this
    omega
  · rw [if_neg h1, if_neg h1] at e
    by_cases h2 : c / 8 % 9 = 1 ∨ c / 8 % 9 = 4 ∨ c / 8 % 9 = 7
    · rw [if_pos h2, if_pos h2] at e
      have a1 := usualAt c j
      have a2 := usualAt c k
      rw [List.getD_eq_getElem?_getD, List.getD_eq_getElem?_getD, List.getElem?_eq_getElem (by rw [usual_len]; exact a1), List.getElem?_eq_getElem (by rw [usual_len]; exact a2)] at e
      have := nd_inj usual_nd _ _ e
      have h3 : k = 1 ∨ k = 2 ∨ k = 3 := by omega
      have h4 : j = 0 ∨ j = 1 ∨ j = 2 := by omega
      rcases h3 with rfl | rfl | rfl <;> rcases h4 with rfl | rfl | rfl <;> first | omega | (simp only [offs] at this; omega)
    · rw [if_neg h2, if_neg h2] at e
      have e := tx_inj e
      have hl : ((wordBy c).take (spotBy c)).length = ((wordBy c).take (spotBy c)).length := rfl
      rw [List.append_assoc, List.append_assoc] at e
      have := (List.append_inj e rfl).2
      simp only [List.cons_append, List.nil_append, List.cons.injEq] at this
      have h5 := this.1
      unfold lc at h5
      have b1 : 0 ≤ (c / 192 + 7 * (j : Int)) % 26 := Int.emod_nonneg _ (by decide)
      have b2 : 0 ≤ (c / 192 + 7 * (k : Int)) % 26 := Int.emod_nonneg _ (by decide)
      have h6 : (c / 192 + 7 * (j : Int)) % 26 = (c / 192 + 7 * (k : Int)) % 26 := by omega
      omega
theorem namesBy_nd (c : Int) : (namesBy c).Nodup := by
  rw [namesBy_eq]
  simp only [List.nodup_cons, List.mem_cons, List.not_mem_nil, or_false, not_or, not_false_eq_true, List.nodup_nil, and_true, true_and]
  refine ⟨⟨nameBy_ne c (by decide) (by decide), nameBy_ne c (by decide) (by decide), nameBy_ne c (by decide) (by decide)⟩, ⟨nameBy_ne c (by decide) (by decide), nameBy_ne c (by decide) (by decide)⟩, nameBy_ne c (by decide) (by decide)⟩
theorem namesBy_word {c : Int} {x : Str} (h : x ∈ namesBy c) : Word x.cps.toList := by
  unfold namesBy at h
  obtain ⟨k, _, rfl⟩ := List.mem_map.mp h
  exact nameBy_ok c k
def sp_names_by : Sp := fun vs H Q _ => ∃ c : Int, vs = [.int c] ∧ ∀ l H', H l = none → Same H H' → H' l = some (.lst ((namesBy c).map V.str)) → Q (.ref l) H'
theorem names_at {c n : Int} (h1 : 0 ≤ n) (h2 : n < 4) : ∃ x, atI ((namesBy c).map V.str) n = some (.str x) ∧ x ∈ namesBy c := by
  have h : n = 0 ∨ n = 1 ∨ n = 2 ∨ n = 3 := by omega
  rcases h with rfl | rfl | rfl | rfl
  · exact ⟨nameBy c 0, atI_get (i := 0) rfl, by rw [namesBy_eq]; simp⟩
  · exact ⟨nameBy c 1, atI_get (i := 1) rfl, by rw [namesBy_eq]; simp⟩
  · exact ⟨nameBy c 2, atI_get (i := 2) rfl, by rw [namesBy_eq]; simp⟩
  · exact ⟨nameBy c 3, atI_get (i := 3) rfl, by rw [namesBy_eq]; simp⟩
theorem im_pairs (ps : List Pr) : ∀ d ∈ ps.map prT, Im d := fun d hd => by
  obtain ⟨p, _, rfl⟩ := List.mem_map.mp hd
  exact im_pair p
theorem pair_at {K : PySem.W.Frag} {H : Hp} {us : List V} {ps : List Pr} {i : Nat} {p : Pr} {u : V} (d : DpAll K H us (ps.map prT)) (hp : ps[i]? = some p) (hu : us[i]? = some u) : Dp K H u (prT p) := by
  obtain ⟨u', h1, h2⟩ := d.get (i := i) (d := prT p) (by rw [List.getElem?_map, hp]; rfl)
  rw [hu] at h1
  cases h1
  exact h2
theorem range_getD {α : Type} (ys : List α) (d : α) : (List.range ys.length).map (fun k => ys.getD k d) = ys := by
  refine List.ext_getElem? fun i => ?_
  rw [List.getElem?_map]
  by_cases h : i < ys.length
  · rw [List.getElem?_range h, List.getElem?_eq_getElem h]
    show some (ys.getD i d) = _
    rw [List.getD_eq_getElem?_getD, List.getElem?_eq_getElem h]
    rfl
  · rw [List.getElem?_eq_none (by rw [List.length_range]; omega), List.getElem?_eq_none (by omega)]
    rfl
theorem range_pick {α β : Type} (ys : List α) (d : α) {n : Nat} (h : ys.length = n) (f : α → Bool) (g : α → β) : ((List.range n).filter fun k => f (ys.getD k d)).map (fun k => g (ys.getD k d)) = (ys.filter f).map g := by
  subst h
  conv => rhs; rw [← range_getD ys d]
  rw [List.filter_map, List.map_map]
  rfl
end XS

namespace XS
open PySem PySem.Spec PyProof.Rows L2
/-! ### the rules that name the written part, with it as a letter -/
section
variable {X : Cx} {e e2 l tg : Expr} {es : List Expr} {te tl ta to : TE} {t : TA} {p pos : Pos}
theorem ix_listK (K : PySem.W.Frag) (hK : X.K = K := by rfl) : IxR X (rIxL K) := by subst hK; exact ix_list
theorem ix_tupK (K : PySem.W.Frag) (hK : X.K = K := by rfl) : IxR X (rIxT K) := by subst hK; exact ix_tup
theorem ix_seqK (K : PySem.W.Frag) (hK : X.K = K := by rfl) : IxR X (rIx K) := by subst hK; exact ix_seq
theorem sl_listK (K : PySem.W.Frag) (hK : X.K = K := by rfl) : SlR X (rSlL K) := by subst hK; exact sl_list
theorem sl_tupK (K : PySem.W.Frag) (hK : X.K = K := by rfl) : SlR X (rSlA K) := by subst hK; exact sl_tupA
theorem pi_listK (K : PySem.W.Frag) (hl : PE X l tl) (hK : X.K = K := by rfl) : PI X tg l (iList K tl) := by subst hK; exact pi_list hl
theorem pi_tupK (K : PySem.W.Frag) (hl : PE X l tl) (hK : X.K = K := by rfl) : PI X tg l (iTup K tl) := by subst hK; exact pi_tup hl
theorem pg_tupK (K : PySem.W.Frag) {k n : Nat} {g : TGs} (hc : X.calm = true) (h : PGs X es g) (hK : X.K = K := by rfl)
    (hn : (assignEach es X.env).length = n := by rfl) (hst : (assignEach es X.env).findIdx? (·.1) = none := by rfl) : PG X (.Tuple es k pos) (gTup K n g) := by subst hK; exact pg_tup hc h hn hst
def rLenK (K : PySem.W.Frag) : List V → Hp → VK → Prop := fun xs H Q => ∃ p ys, xs = [.ref p] ∧ (SqL K H p ys ∨ SqT K H p ys) ∧ Q (.int ys.length) H
def rListK (K : PySem.W.Frag) : List V → Hp → VK → Prop := fun xs H Q => ∃ p ys, xs = [.ref p] ∧ (SqL K H p ys ∨ SqT K H p ys) ∧ ∀ l, H l = none → Q (.ref l) (upd H l (.lst ys))
theorem call_isiK (K : PySem.W.Frag) (hK : X.K = K := by rfl) : CallR X (.builtin "isinstance") (rIsi K) := by subst hK; exact call_isi
theorem cr_sumK (K : PySem.W.Frag) (hc : X.calm = true) (hK : X.K = K := by rfl) : CallR X (.builtin "sum") (rSum K) := by subst hK; exact cr_sum hc
theorem cr_sortedSK (K : PySem.W.Frag) (hK : X.K = K := by rfl) : CallR X (.builtin "sorted") (rSortedS K) := by subst hK; exact cr_sortedS
theorem call_lenK (K : PySem.W.Frag) (hK : X.K = K := by rfl) : CallR X (.builtin "len") (rLenK K) := by subst hK; exact call_len_seq
theorem call_listK (K : PySem.W.Frag) (hK : X.K = K := by rfl) : CallR X (.type "list") (rListK K) := by subst hK; exact call_list_of
theorem op_inK (K : PySem.W.Frag) (hK : X.K = K := by rfl) : OpR X (compareOp .In) (rIn K false) := by subst hK; exact op_in_seq
theorem op_notInK (K : PySem.W.Frag) (hK : X.K = K := by rfl) : OpR X (compareOp .NotIn) (rIn K true) := by subst hK; exact op_notIn_seq
theorem op_catK (K : PySem.W.Frag) (hK : X.K = K := by rfl) : OpR X (binaryOp .Add) (rCatA K) := by subst hK; exact op_catA
theorem op_repK (K : PySem.W.Frag) (hK : X.K = K := by rfl) : OpR X (binaryOp .Mult) (rRepT K) := by subst hK; exact op_repT
theorem pa_starK (K : PySem.W.Frag) (he : PE X e te) (hr : PA X es t) (hK : X.K = K := by rfl) (hs : starEach (.Starred e p :: es) X.env = (true, eval e X.env) :: starEach es X.env := by rfl) : PA X (.Starred e p :: es) (StX.tStar K te t) := by subst hK; exact StX.pa_star he hr hs
/-- tuple(xs) of a list or a tuple -/
def rTupK (K : PySem.W.Frag) : List V → Hp → VK → Prop := fun xs H Q => ∃ p ys, xs = [.ref p] ∧ ((SqL K H p ys ∧ ∀ l, H l = none → Q (.ref l) (upd H l (.tup ys))) ∨ (SqT K H p ys ∧ Q (.ref p) H))
theorem call_tupK (K : PySem.W.Frag) (hK : X.K = K := by rfl) : CallR X (.type "tuple") (rTupK K) := by subst hK; exact call_tuple_of
end
section
variable {K : PySem.W.Frag} {H : Hp} {Q : VK}
theorem x_lenL {p : Addr} {ys : List V} (h : SqL K H p ys) (q : Q (.int ys.length) H) : rLenK K [.ref p] H Q := ⟨p, ys, rfl, .inl h, q⟩
theorem x_lenT {p : Addr} {ys : List V} (h : SqT K H p ys) (q : Q (.int ys.length) H) : rLenK K [.ref p] H Q := ⟨p, ys, rfl, .inr h, q⟩
theorem x_listL {p : Addr} {ys : List V} (h : SqL K H p ys) (q : ∀ l H1, H l = none → Same H H1 → H1 l = some (.lst ys) → Q (.ref l) H1) : rListK K [.ref p] H Q := ⟨p, ys, rfl, .inl h, fun l hl => q l _ hl (same_upd hl) upd_same⟩
theorem x_tupL {p : Addr} {ys : List V} (h : SqL K H p ys) (q : ∀ l H1, H l = none → Same H H1 → H1 l = some (.tup ys) → Q (.ref l) H1) : rTupK K [.ref p] H Q := ⟨p, ys, rfl, .inl ⟨h, fun l hl => q l _ hl (same_upd hl) upd_same⟩⟩
theorem x_sum {p : Addr} {ns : List Int} (h : SqL K H p (ns.map V.int)) (q : Q (.int ns.sum) H) : rSum K [.ref p] H Q := ⟨p, ns, rfl, h, q⟩
theorem x_sortS {p : Addr} {xs : List Str} (h : SqL K H p (xs.map V.str)) (hz : xs.length < 64) (q : ∀ ys l H1, ys.Perm xs → sortedS ys = true → H l = none → Same H H1 → H1 l = some (.lst (ys.map V.str)) → Q (.ref l) H1) : rSortedS K [.ref p] H Q :=
  ⟨p, xs, rfl, h, hz, fun ys l h1 h2 h3 => q ys l _ h1 h2 h3 (same_upd h3) upd_same⟩
end
/-! ### data that == looks at -/
theorem plainAll {xs : List PyData} (h : ∀ d ∈ xs, d.plain = true) : PyData.plainAll xs = true := by
  induction xs with
  | nil => rfl
  | cons x xs ih =>
    have h1 := h x (List.mem_cons_self ..)
    have h2 := ih fun d hd => h d (List.mem_cons_of_mem _ hd)
    simp [PyData.plainAll, h1, h2]
theorem depthAll_le {xs : List PyData} {n : Nat} (h : ∀ d ∈ xs, d.depth ≤ n) : PyData.depthAll xs ≤ n := by
  induction xs with
  | nil => simp [PyData.depthAll]
  | cons x xs ih =>
    have h1 := h x (List.mem_cons_self ..)
    have h2 := ih fun d hd => h d (List.mem_cons_of_mem _ hd)
    simp only [PyData.depthAll]
    omega
/-- without dicts, at most 64 deep -/
structure Flt (d : PyData) : Prop where
  pl : d.plain = true
  dp : d.depth ≤ 64
theorem al_lay {n : Nat} {d : PyData} (h : Al n d) : d.plain = true ∧ d.depth ≤ n + 1 := by
  induction h with
  | int i => exact ⟨rfl, by simp [PyData.depth]⟩
  | str x => exact ⟨rfl, by simp [PyData.depth]⟩
  | tru => exact ⟨rfl, by simp [PyData.depth]⟩
  | non => exact ⟨rfl, by simp [PyData.depth]⟩
  | tup _ _ ih =>
    have h1 := plainAll fun d hd => (ih d hd).1
    have h2 := depthAll_le fun d hd => (ih d hd).2
    refine ⟨by simpa [PyData.plain] using h1, ?_⟩
    simp only [PyData.depth]
    omega
  | lst _ _ ih =>
    have h1 := plainAll fun d hd => (ih d hd).1
    have h2 := depthAll_le fun d hd => (ih d hd).2
    refine ⟨by simpa [PyData.plain] using h1, ?_⟩
    simp only [PyData.depth]
    omega
theorem al_flt {n : Nat} {d : PyData} (h : Al n d) (hn : n ≤ 60) : Flt d := ⟨(al_lay h).1, by have := (al_lay h).2; omega⟩
theorem al_pairs {n : Nat} {ps : List Pr} (h : ps.length ≤ 1000) : Al (n + 2) (.list (ps.map prT)) := .lst (fun d hd => by
  obtain ⟨p, _, rfl⟩ := List.mem_map.mp hd
  exact al_pair p) (by rw [List.length_map]; exact h)
def rEqP (K : PySem.W.Frag) : R2 := fun x y H Q => ∃ d e, Dp K H x d ∧ Dp K H y e ∧ Flt d ∧ Flt e ∧ Q (.bl (PyData.eqv d e)) H
def rNeP (K : PySem.W.Frag) : R2 := fun x y H Q => ∃ d e, Dp K H x d ∧ Dp K H y e ∧ Flt d ∧ Flt e ∧ Q (.bl (!PyData.eqv d e)) H
theorem op_eqK {X : Cx} (K : PySem.W.Frag) (hu : X.A.units + 64 < cLine) (hK : X.K = K := by rfl) : OpR X (compareOp .Eq) (rEqP K) := by
  subst hK
  intro pins s σ H x y v u Q I rx ry h
  obtain ⟨d, e, hd, he, sd, se, q⟩ := h
  obtain ⟨as, r1⟩ := Dp.reads I d x v hd rx
  obtain ⟨bs, r2⟩ := Dp.reads I e y u he ry
  exact SeqAt.eq_plain r1 r2 sd.pl se.pl (by have := sd.dp; have := se.dp; omega) ⟨.bl _, H, I, rfl, q⟩
theorem op_neK {X : Cx} (K : PySem.W.Frag) (hu : X.A.units + 64 < cLine) (hK : X.K = K := by rfl) : OpR X (compareOp .NotEq) (rNeP K) := by
  subst hK
  intro pins s σ H x y v u Q I rx ry h
  obtain ⟨d, e, hd, he, sd, se, q⟩ := h
  obtain ⟨as, r1⟩ := Dp.reads I d x v hd rx
  obtain ⟨bs, r2⟩ := Dp.reads I e y u he ry
  exact SeqAt.ne_plain r1 r2 sd.pl se.pl (by have := sd.dp; have := se.dp; omega) ⟨.bl _, H, I, rfl, q⟩
section
variable {K : PySem.W.Frag} {H : Hp} {Q : VK} {x y : V}
theorem x_eqD {d e : PyData} (h1 : Dp K H x d) (h2 : Dp K H y e) (a1 : Flt d) (a2 : Flt e) (q : Q (.bl (PyData.eqv d e)) H) : rEqP K x y H Q := ⟨d, e, h1, h2, a1, a2, q⟩
theorem x_neD {d e : PyData} (h1 : Dp K H x d) (h2 : Dp K H y e) (a1 : Flt d) (a2 : Flt e) (q : Q (.bl (!PyData.eqv d e)) H) : rNeP K x y H Q := ⟨d, e, h1, h2, a1, a2, q⟩
end
theorem flt_nil : Flt (.list []) := ⟨rfl, by simp [PyData.depth, PyData.depthAll]⟩
theorem x_cut {t u : TS} {D : Ends} {σ : L2.St} {H : Hp} (Mid : L2.St → Hp → Prop) (h1 : t { D with nx := Mid } σ H) (h2 : ∀ σ' H', Mid σ' H' → u D σ' H') : Evl.tCut t u D σ H := ⟨Mid, h1, h2⟩
theorem eqv_nil (ds : List PyData) : PyData.eqv (.list ds) (.list []) = ds.isEmpty := by
  cases ds <;> simp [PyData.eqv, PyData.eqvAll]
section
variable {K : PySem.W.Frag} {σ : L2.St} {H : Hp} {te : TE} {t : TA} {k : List V → Hp → Prop}
theorem x_star (h : te σ H fun x H1 => ∃ p xs, x = V.ref p ∧ (SqT K H1 p xs ∨ SqL K H1 p xs) ∧ t σ H1 fun ys H2 => k (xs ++ ys) H2) : StX.tStar K te t σ H k := h
end
end XS

namespace XS
open PySem PySem.Spec PyProof.Rows L2 L2H
/-! ### isinstance of an error that the context bears -/
theorem call_isP {X : Cx} {a D : Addr} {oe : Obj} (hp : (a, oe) ∈ X.pn) (C : ExcC X.K D) (hz : Zc (.ref D) none oe) (hf : ∃ vs, oe.data = .fields vs) : CallR X (.builtin "isinstance") (rIsE X.K D a) := by
  intro pins s σ H xs us Q I r h
  obtain ⟨c, cv, b, rfl, hcv, e, q⟩ := h
  obtain ⟨u1, u2, rfl, r1, r2⟩ := vals2 r
  obtain rfl : u1 = Value.ref a := r1
  have ec := hcv _ r2
  subst ec
  have hget := (I.pin (a, oe) (List.mem_append_left _ hp)).1
  have J : PySem.W.InstAt s.heap a oe D none := by
    obtain ⟨vs, hv⟩ := hf
    cases oe with
    | mk oc od oda osl =>
      obtain ⟨z1, z2⟩ := hz
      simp only at z1 z2 hv
      subst z1 z2 hv
      exact ⟨hget, rfl, rfl, trivial⟩
  exact PySem.W.kia_one (PySem.W.handS_kitx_exc C.hg C.hk C.hs C.hd C.ha C.hn C.ht C.hm) I.kIn J e (fun z => nomatch z) fun tk => ⟨.bl b, H, I.kept (t' := tk) fun _ _ z => z, rfl, q⟩
/-! ### a def that takes the error that is handled: nothing leaves it -/
structure FnP (P : Program) (w : World) (K : PySem.W.Frag) (mg : Str → Option Value) (base : Heap) (k : Nat) (f : Addr) (fd : FuncData) (ps : List Str) (sp : Addr → Addr → Sp) : Prop where
  len : ∀ a D vs H Q E, sp a D vs H Q E → vs.length = ps.length
  run : ∀ (A : Around) (outer : List Env) (s : Shared) (H : Hp) (args : Args) (us : List Value) (vs : List V) (Q : VK) (p : Addr × Obj) (D : Addr), RoomH k A → PinOk outer H s p → Zc (.ref D) none p.2 → (∃ vs, p.2.data = .fields vs) →
    Env0 P w K mg base A outer s H → BindsTo s fd args (ps.zip us) → Vals vs us → sp p.1 D vs H Q E0 → codeAny (model P w) A (.call (.ref f) args) (CR CX0 outer P w H s Q E0) s
theorem fnP_of {P : Program} {w : World} {K : PySem.W.Frag} {mg : Str → Option Value} {base : Heap} {k : Nat} {x qual : Str} {st : Stmt} {f : Addr} {fd : FuncData} {N ps : List Str} {sp : Addr → Addr → Sp} (F : Fun K x qual st f fd) (S : FnScope N ps (defScope st))
    (len : ∀ a D vs H Q E, sp a D vs H Q E → vs.length = ps.length)
    (hbody : ∀ (cdv : Value) (A : Around) (outer : List Env) (s : Shared) (H : Hp) (vs : List V) (Q : VK) (p : Addr × Obj) (D : Addr), Zc (.ref D) none p.2 → (∃ vs, p.2.data = .fields vs) → RoomH k (A.deeper (envOfC qual (defScope st) s.heap.objs.size f cdv)) → sp p.1 D vs H Q E0 →
      ∃ t, PSs (cxH CX0 P w K mg base N qual (defScope st) f cdv A outer s H E0 p) (defBody st) t ∧ t { nx := fun _ H' => Q .non H', rt := Q } (L2.start N vs) H) : FnP P w K mg base (k + 1) f fd ps sp := by
  obtain ⟨oc, od, kV, doc, pm, an, cdv, ct, osl, rfl, lk, hcd⟩ := F.ex
  refine ⟨len, fun A outer s H args us vs Q p D hr hpin hz hf e0 hb r hsp => ?_⟩
  have KX : K.In s.heap := e0.mod.kin.keeps fun b o e => (e0.bs b o e).1
  have lim : s.heap.NoLimit := e0.mod.nolimit.keeps fun b o e => (e0.bs b o e).1
  refine codeAny_call_function hr.depth (KX _ _ lk) rfl S.co S.gen rfl (PySem.W.codeRec_of KX hcd) (hb _ _ _ _ ?_)
  refine wpAny_newFunctionEnv_cells S.kind (fun y hy => ?_) fun env he s1 x => ?_
  · rcases S.par y.1 (List.of_mem_zip hy).1 with c | c
    · exact .inl c
    · exact .inr ⟨c, PySem.W.cellsFrom_some _ _ _ (.inl c)⟩
  subst he
  refine ⟨lim.keeps x.toInCall.keep, codeAny_func ?_⟩
  obtain ⟨t, ht, hq⟩ := hbody cdv A outer s H vs Q p D hz hf (hr.deeper _) hsp
  have I := inv_startH (CX := CX0) (P := P) (w := w) (K := K) (mg := mg) (base := base) (E := E0) S hpin e0 (len _ _ _ _ _ _ hsp) r x
  refine wpAny_mono (ht.run [] s1 _ H _ I hq) (fun fl s' hs => ?_) fun e s' hs => hs
  cases fl with
  | ret u =>
    obtain ⟨v, σ', H', J, rv, z⟩ := hs
    exact ⟨v, H', J.os, J.bare, J.base, J.hok, rv, z⟩
  | next =>
    obtain ⟨σ', H', J, z⟩ := hs
    exact ⟨V.non, H', J.os, J.bare, J.base, J.hok, rfl, z⟩
  | brk =>
    obtain ⟨_, _, _, z⟩ := hs
    exact False.elim z
  | cont =>
    obtain ⟨_, _, _, z⟩ := hs
    exact False.elim z
def DefP (P : Program) (w : World) (K : PySem.W.Frag) (mg : Str → Option Value) (base : Heap) (k : Nat) (nm : Str) (ps : List Str) (sp : Addr → Addr → Sp) : Prop :=
  ∃ f fd, FnP P w K mg base k f fd ps sp ∧ mg nm = some (.ref f) ∧ PySem.W.keepIn K (.ref f) = true ∧ Binds K fd ps []
theorem FunAt.okP {P : Program} {w : World} {K : PySem.W.Frag} {mg : Str → Option Value} {base : Heap} {k : Nat} {nm : Str} {st : Stmt} {N ps : List Str} {sp : Addr → Addr → Sp} (F : FunAt K mg nm st ps) (S : FnScope N ps (defScope st))
    (len : ∀ a D vs H Q E, sp a D vs H Q E → vs.length = ps.length)
    (hbody : ∀ (f : Addr) (cdv : Value) (A : Around) (outer : List Env) (s : Shared) (H : Hp) (vs : List V) (Q : VK) (p : Addr × Obj) (D : Addr), Zc (.ref D) none p.2 → (∃ vs, p.2.data = .fields vs) → RoomH k (A.deeper (envOfC nm (defScope st) s.heap.objs.size f cdv)) → sp p.1 D vs H Q E0 →
      ∃ t, PSs (cxH CX0 P w K mg base N nm (defScope st) f cdv A outer s H E0 p) (defBody st) t ∧ t { nx := fun _ H' => Q .non H', rt := Q } (L2.start N vs) H) : DefP P w K mg base (k + 1) nm ps sp := by
  obtain ⟨f, fd, F, a, b⟩ := F
  exact ⟨f, fd, fnP_of F S len (hbody f), a, F.kp, b⟩
/-- its call in the suite: the error at a, of the class cls, without a dict -/
def tCallP (a : Addr) (cls : Value) (d : Option Addr) (sp : Addr → Addr → Sp) (t : TA) : TE := fun σ H Q => t σ H fun vs H1 => ∃ D, cls = .ref D ∧ d = none ∧ sp a D vs H1 Q E0
section
variable {X : Cx} {k : Nat} {ps : List Str} {sp : Addr → Addr → Sp} {x : Str} {q pos : Pos} {e : Expr} {es : List Expr} {t : TA} {a : Addr} {oe : Obj} {cls : Value} {d : Option Addr}
theorem pe_callP (D : DefP X.prog X.w X.K X.mg X.base k x ps sp) (hp : (a, oe) ∈ X.pn) (hz : Zc cls d oe) (hf : ∃ vs, oe.data = .fields vs) (hr : RoomH k X.A) (hg : Gl X x) (ha : PA X (e :: es) t) (hdb : (x == ("__debug__" : Str)) = false := by decide)
    (he : starEach (e :: es) X.env = (false, eval e X.env) :: starEach es X.env := by rfl) (hpl : (backTo pos (starEach es X.env)).any (·.1) = false := by rfl) : PE X (.Call (.Name x q) (e :: es) [] pos) (tCallP a cls d sp t) := by
  obtain ⟨f, fd, F, hm, hk, hb⟩ := D
  refine ⟨fun pins s σ H Q I h => ?_⟩
  refine wpAny_Call_Name_kw (ld_glob I hg hm ?_ hdb)
  refine PySem.W.callWith_K (h₀ := X.base) I.ok.mod.kin hk (thn (ha.run pos pins s σ H _ I h) fun us s1 ⟨vs, H1, I1, r, D, e1, e2, z⟩ => ⟨I1.kIn, ?_⟩) he hpl
  subst e1 e2
  have hl : us.length = ps.length := by rw [← r.length]; exact F.len _ _ _ _ _ _ z
  have b := hb s1 us I1.kIn (by rw [List.append_nil]; exact hl)
  rw [List.append_nil] at b
  have P1 := I1.pin (a, oe) (List.mem_append_left _ hp)
  have hpin : PinOk X.stack H1 s1 (a, oe) := ⟨P1.1, P1.2.1, fun hm => (List.mem_cons.mp (I1.stkSub a hm)).elim P1.2.2.1 P1.2.2.2.1, P1.2.2.2.2⟩
  refine wpAny_call (codeAny_mono (F.run X.A X.stack s1 H1 ⟨us, []⟩ us vs Q (a, oe) D hr hpin hz hf I1.env0 b r z) fun r s' hq => ?_)
  cases r with
  | error e => exact False.elim hq
  | ok fl =>
    cases fl with
    | ret u => exact I1.after hq
    | next => exact False.elim hq
    | brk => exact False.elim hq
    | cont => exact False.elim hq
end
theorem roomH_mark {k j : Nat} {A : Around} {v : Option Value} (r : Room k A) (h : j ≤ k) : RoomH j (A.mark v) := ⟨(roomH_of (r.mono h)).dp, (roomH_of (r.mono h)).un⟩
/-- a call that may raise -/
theorem pe_callX {X : Cx} {k : Nat} {ps : List Str} {sp : Sp} {E : L2.St → XK} {x : Str} {q pos : Pos} {e : Expr} {es : List Expr} {t : TA} (D : DefAt X.prog X.w X.K X.mg X.base (L2.CX X.prog X.w) k x ps sp) (hr : Room k X.A) (hg : Gl X x)
    (hx : ∀ σ, PassesAt (L2.CX X.prog X.w) X σ (E σ)) (ha : PA X (e :: es) t) (hdb : (x == ("__debug__" : Str)) = false := by decide) (he : starEach (e :: es) X.env = (false, eval e X.env) :: starEach es X.env := by rfl)
    (hpl : (backTo pos (starEach es X.env)).any (·.1) = false := by rfl) : PE X (.Call (.Name x q) (e :: es) [] pos) (tCallS sp E t) := by
  obtain ⟨f, fd, F, a, b, c⟩ := D
  exact pe_callS F hr hg a b c hx ha hdb he hpl
/-- a promise by the body's reading, where something may be raised -/
theorem FunAt.okX {P : Program} {w : World} {K : PySem.W.Frag} {mg : Str → Option Value} {base : Heap} {nm : Str} {st : Stmt} {ps N : List Str} {sp : Sp} {k : Nat} (F : FunAt K mg nm st ps) (S : FnScope N ps (defScope st)) (len : ∀ vs H Q E, sp vs H Q E → vs.length = ps.length)
    (hbody : ∀ (f : Addr) (cdv : Value) (A : Around) (outer : List Env) (s : Shared) (H : Hp) (vs : List V) (Q : VK) (E : XK), Room k (A.deeper (envOfC nm (defScope st) s.heap.objs.size f cdv)) → sp vs H Q E →
      ∃ t, PSs (cxOf (L2.CX P w) P w K mg base N nm (defScope st) f cdv A outer s H E) (defBody st) t ∧ t { nx := fun _ H' => Q .non H', rt := Q } (L2.start N vs) H) : DefAt P w K mg base (L2.CX P w) (k + 1) nm ps sp := by
  obtain ⟨f, fd, F, a, b⟩ := F
  exact ⟨f, fd, F.okX S len (hbody f), a, F.kp, b⟩
/-! ### the error classes -/
/-- what the top has written of the four classes: S the base, V P N the three -/
structure Er (K : PySem.W.Frag) (mg : Str → Option Value) (S V P N : Addr) : Prop where
  g_SomeError : mg "SomeError" = some (.ref S)
  g_NoValue : mg "NoValue" = some (.ref V)
  g_NotPlain : mg "NotPlain" = some (.ref P)
  g_NoNote : mg "NoNote" = some (.ref N)
  x_NoValue : PySem.W.excIn K V [.type "ValueError", .type "Exception", .type "BaseException", .type "object"] "ValueError.__new__" = true
  k_NoValue : PySem.W.keepIn K (.ref V) = true
  b_NoValue : PySem.W.subIn K (.ref V) (.type "BaseException") = some true
  t_NoValue : PySem.W.typeIn K (.ref V) = some (.type "type")
  c_NoValue : ExcC K V
  x_NotPlain : PySem.W.excIn K P [.type "ValueError", .type "Exception", .type "BaseException", .type "object"] "ValueError.__new__" = true
  k_NotPlain : PySem.W.keepIn K (.ref P) = true
  b_NotPlain : PySem.W.subIn K (.ref P) (.type "BaseException") = some true
  t_NotPlain : PySem.W.typeIn K (.ref P) = some (.type "type")
  c_NotPlain : ExcC K P
  x_NoNote : PySem.W.excIn K N [.type "ValueError", .type "Exception", .type "BaseException", .type "object"] "ValueError.__new__" = true
  k_NoNote : PySem.W.keepIn K (.ref N) = true
  b_NoNote : PySem.W.subIn K (.ref N) (.type "BaseException") = some true
  t_NoNote : PySem.W.typeIn K (.ref N) = some (.type "type")
  c_NoNote : ExcC K N
  m_V : PySem.W.exmOne K (.ref V) (.ref S) = some true
  m_P : PySem.W.exmOne K (.ref P) (.ref S) = some true
  m_N : PySem.W.exmOne K (.ref N) (.ref S) = some true
  i_VV : PySem.W.kitOne K (.ref V) (.ref V) = some true
  i_VP : PySem.W.kitOne K (.ref V) (.ref P) = some false
  i_VN : PySem.W.kitOne K (.ref V) (.ref N) = some false
  i_V : PySem.W.kitOne K (.ref V) (.type "ValueError") = some true
  i_PV : PySem.W.kitOne K (.ref P) (.ref V) = some false
  i_PP : PySem.W.kitOne K (.ref P) (.ref P) = some true
  i_PN : PySem.W.kitOne K (.ref P) (.ref N) = some false
  i_P : PySem.W.kitOne K (.ref P) (.type "ValueError") = some true
  i_NV : PySem.W.kitOne K (.ref N) (.ref V) = some false
  i_NP : PySem.W.kitOne K (.ref N) (.ref P) = some false
  i_NN : PySem.W.kitOne K (.ref N) (.ref N) = some true
  i_N : PySem.W.kitOne K (.ref N) (.type "ValueError") = some true
/-- which error -/
inductive Ek | value | plain | note
def Ek.at (V P N : Addr) : Ek → Addr
  | .value => V | .plain => P | .note => N
def Ek.word : Ek → Str
  | .value => "no value" | .plain => "not plain" | .note => "no note"
def sp_word_of (V P N : Addr) : Addr → Addr → Sp := fun a D vs H Q _ => vs = [.ref a] ∧ ∃ k : Ek, D = k.at V P N ∧ ∀ H', Same H H' → Q (.str k.word) H'
section
variable {K : PySem.W.Frag} {H : Hp} {Q : VK} {σ : L2.St}
theorem x_isE {a D : Addr} {c : Addr} {b : Bool} (e : PySem.W.kitOne K (.ref D) (.ref c) = some b) (q : Q (.bl b) H) : rIsE K D a [.ref a, .ref c] H Q := ⟨.ref c, .ref c, b, rfl, fun _ h => h, e, q⟩
theorem x_isET {a D : Addr} {n : String} {b : Bool} (e : PySem.W.kitOne K (.ref D) (.type n) = some b) (q : Q (.bl b) H) : rIsE K D a [.ref a, .ty n] H Q := ⟨.ty n, .type n, b, rfl, fun _ h => h, e, q⟩
theorem x_callS {sp : Sp} {E : L2.St → XK} {t : TA} (h : t σ H fun vs H1 => sp vs H1 Q (E σ)) : tCallS sp E t σ H Q := h
theorem x_callP {a : Addr} {D : Addr} {sp : Addr → Addr → Sp} {t : TA} (h : t σ H fun vs H1 => sp a D vs H1 Q E0) : tCallP a (.ref D) none sp t σ H Q := by
  unfold tCallP
  refine (show t σ H (fun vs H1 => ∃ D', Value.ref D = .ref D' ∧ (none : Option Addr) = none ∧ sp a D' vs H1 Q E0) from ?_)
  have e : (fun (vs : List V) (H1 : Hp) => ∃ D', Value.ref D = .ref D' ∧ (none : Option Addr) = none ∧ sp a D' vs H1 Q E0) = fun vs H1 => sp a D vs H1 Q E0 := by
    funext vs H1
    exact propext ⟨fun ⟨D', h1, _, h2⟩ => by cases h1; exact h2, fun h => ⟨D, rfl, rfl, h⟩⟩
  rw [e]
  exact h
/-- sep.join of a list of texts -/
def rJoinK (K : PySem.W.Frag) : V → List V → Hp → VK → Prop := fun x xs H Q => ∃ a p, ∃ ys : List Str, x = .str a ∧ xs = [.ref p] ∧ (SqL K H p (ys.map V.str) ∨ SqT K H p (ys.map V.str)) ∧
  (ys.map (·.length)).sum + ys.length * a.length ≤ 16777216 ∧ Q (.str (Txt.join a ys)) H
theorem x_M1 {r : V → List V → Hp → VK → Prop} {to te : TE} (h : to σ H fun x H1 => (∃ a, x = .str a) ∧ te σ H1 fun y H2 => r x [y] H2 Q) : tM1 r to te σ H Q := h
end
theorem pe_joinK {X : Cx} {o e : Expr} {to te : TE} {apos pos : Pos} (K : PySem.W.Frag) (ho : PE X o to) (he : PE X e te) (hK : X.K = K := by rfl) (hs : starEach [e] X.env = [(false, eval e X.env)] := by rfl) (hbase : attributeBase o "join" X.env (eval o X.env) = eval o X.env := by rfl)
    (hline : (apos.endLine == pos.line) = true := by rfl) : PE X (.Call (.Attribute o "join" apos) [e] [] pos) (tM1 (rJoinK K) to te) := by
  subst hK
  exact pe_join ho he hs hbase hline
end XS

namespace XS
open PySem PySem.Spec PyProof.Rows L2
/-! ### the sums as functions -/
instance (a b : Str) : Decidable (slt a b) := by unfold slt; infer_instance
/-- a pair put into rising pairs -/
def ins (p : Pr) : List Pr → List Pr
  | [] => [p]
  | q :: r => if p.1 = q.1 then (q.1, q.2 + p.2) :: r else if slt p.1 q.1 then p :: q :: r else q :: ins p r
def sortP (ps : List Pr) : List Pr := ps.foldl (fun acc p => ins p acc) []
def nrm (ps : List Pr) : List Pr := (sortP ps).filter fun p => decide (p.2 ≠ 0)
theorem ins_mem (p : Pr) (x : Str) : ∀ r : List Pr, x ∈ (ins p r).map (·.1) ↔ x = p.1 ∨ x ∈ r.map (·.1)
  | [] => by simp [ins]
  | q :: r => by
    unfold ins
    split
    · rename_i h
      simp only [List.map_cons, List.mem_cons]
      constructor
      · rintro (h2 | h2)
        · exact .inr (.inl h2)
        · exact .inr (.inr h2)
      · rintro (h2 | h2 | h2)
        · exact .inl (h2.trans h)
        · exact .inl h2
        · exact .inr h2
    · split
      · simp
      · simp only [List.map_cons, List.mem_cons]
        rw [ins_mem p x r]
        constructor
        · rintro (h | h | h)
          · exact .inr (.inl h)
          · exact .inl h
          · exact .inr (.inr h)
        · rintro (h | h | h)
          · exact .inr (.inl h)
          · exact .inl h
          · exact .inr (.inr h)
theorem ins_rise (p : Pr) : ∀ r : List Pr, Rising (r.map (·.1)) → Rising ((ins p r).map (·.1))
  | [], _ => List.pairwise_singleton _ _
  | q :: r, h => by
    have h' := List.pairwise_cons.mp h
    unfold ins
    split
    · exact h
    · rename_i hne
      split
      · rename_i hlt
        refine List.pairwise_cons.mpr ⟨fun y hy => ?_, h⟩
        rcases List.mem_cons.mp hy with rfl | hy
        · exact hlt
        · exact slt_tr hlt (h'.1 y hy)
      · rename_i hge
        refine List.pairwise_cons.mpr ⟨fun y hy => ?_, ins_rise p r h'.2⟩
        rcases (ins_mem p y r).mp hy with rfl | hy
        · by_cases c : slt q.1 p.1
          · exact c
          · exact absurd (slt_tot hge c) hne
        · exact h'.1 y hy
theorem sortP_app (ps : List Pr) (p : Pr) : sortP (ps ++ [p]) = ins p (sortP ps) := by
  unfold sortP
  rw [List.foldl_append]
  rfl
/-- what is reckoned over the pairs -/
def dot (f : Str → Int) (ps : List Pr) : Int := (ps.map fun p => p.2 * f p.1).sum
theorem dot_nil (f : Str → Int) : dot f [] = 0 := rfl
theorem dot_cons (f : Str → Int) (p : Pr) (ps : List Pr) : dot f (p :: ps) = p.2 * f p.1 + dot f ps := by
  unfold dot
  rw [List.map_cons, List.sum_cons]
theorem dot_app (f : Str → Int) (ps qs : List Pr) : dot f (ps ++ qs) = dot f ps + dot f qs := by
  unfold dot
  rw [List.map_append, List.sum_append]
theorem ins_dot (f : Str → Int) (p : Pr) : ∀ r : List Pr, dot f (ins p r) = p.2 * f p.1 + dot f r
  | [] => dot_cons f p []
  | q :: r => by
    unfold ins
    split
    · rename_i h
      rw [dot_cons, dot_cons, h, Int.add_mul]
      show q.2 * f q.1 + p.2 * f q.1 + dot f r = _
      omega
    · split
      · rw [dot_cons]
      · rw [dot_cons, ins_dot f p r, dot_cons]
        omega
theorem sortP_dot (f : Str → Int) (ps : List Pr) : dot f (sortP ps) = dot f ps := by
  have key : ∀ (ps acc : List Pr), dot f (ps.foldl (fun acc p => ins p acc) acc) = dot f acc + dot f ps := by
    intro ps
    induction ps with
    | nil => intro acc; rw [dot_nil, Int.add_zero]; rfl
    | cons p ps ih =>
      intro acc
      rw [List.foldl_cons, ih, ins_dot, dot_cons]
      omega
  unfold sortP
  rw [key, dot_nil, Int.zero_add]
theorem filter_dot (f : Str → Int) (ps : List Pr) : dot f (ps.filter fun p => decide (p.2 ≠ 0)) = dot f ps := by
  induction ps with
  | nil => rfl
  | cons p ps ih =>
    rw [List.filter_cons]
    by_cases h : p.2 = 0
    · rw [if_neg (by simp [h]), ih, dot_cons, h, Int.zero_mul, Int.zero_add]
    · rw [if_pos (by simpa using h), dot_cons, dot_cons, ih]
theorem nrm_dot (f : Str → Int) (ps : List Pr) : dot f (nrm ps) = dot f ps := (filter_dot f _).trans (sortP_dot f ps)
theorem shr_dot (ps : List Pr) (x : Str) : shr ps x = dot (fun y => if y = x then 1 else 0) ps := by
  induction ps with
  | nil => rfl
  | cons p ps ih =>
    rw [shr_cons, dot_cons, ih]
    split
    · rw [Int.mul_one]
    · rw [Int.mul_zero]
theorem sortP_rise (ps : List Pr) : Rising ((sortP ps).map (·.1)) := by
  have key : ∀ (ps acc : List Pr), Rising (acc.map (·.1)) → Rising ((ps.foldl (fun acc p => ins p acc) acc).map (·.1)) := by
    intro ps
    induction ps with
    | nil => intro acc h; exact h
    | cons p ps ih => intro acc h; exact ih _ (ins_rise p acc h)
  exact key ps [] List.Pairwise.nil
theorem sortP_mem (ps : List Pr) (x : Str) : x ∈ (sortP ps).map (·.1) ↔ x ∈ ps.map (·.1) := by
  have key : ∀ (ps acc : List Pr), x ∈ (ps.foldl (fun acc p => ins p acc) acc).map (·.1) ↔ x ∈ acc.map (·.1) ∨ x ∈ ps.map (·.1) := by
    intro ps
    induction ps with
    | nil => intro acc; simp
    | cons p ps ih =>
      intro acc
      rw [List.foldl_cons, ih, ins_mem, List.map_cons, List.mem_cons]
      constructor
      · rintro ((h | h) | h)
        · exact .inr (.inl h)
        · exact .inl h
        · exact .inr (.inr h)
      · rintro (h | h | h)
        · exact .inl (.inr h)
        · exact .inl (.inl h)
        · exact .inr h
  unfold sortP
  rw [key]
  simp
theorem nrm_norm (ps : List Pr) : Norm (nrm ps) where
  rise := by
    have h : ((nrm ps).map (·.1)).Sublist ((sortP ps).map (·.1)) := (List.filter_sublist).map _
    exact List.Pairwise.sublist h (sortP_rise ps)
  nz := fun p hp => by simpa using (List.mem_filter.mp hp).2
theorem nrm_shr (ps : List Pr) (x : Str) : shr (nrm ps) x = shr ps x := by rw [shr_dot, nrm_dot, ← shr_dot]
theorem nrm_mem {ps : List Pr} {x : Str} (h : x ∈ (nrm ps).map (·.1)) : x ∈ ps.map (·.1) := by
  obtain ⟨p, hp, rfl⟩ := List.mem_map.mp h
  exact (sortP_mem ps _).mp (List.mem_map_of_mem (List.mem_filter.mp hp).1)
theorem norm_is {ps out : List Pr} (n : Norm out) (h : ∀ x, shr out x = shr ps x) : out = nrm ps := norm_ext n (nrm_norm ps) fun x => by rw [h, nrm_shr]
theorem ins_len (p : Pr) : ∀ r : List Pr, (ins p r).length ≤ r.length + 1
  | [] => Nat.le_refl _
  | q :: r => by
    unfold ins
    split
    · simp
    · split
      · simp
      · have := ins_len p r
        simp
        omega
theorem nrm_len (ps : List Pr) : (nrm ps).length ≤ ps.length := by
  have key : ∀ (ps acc : List Pr), (ps.foldl (fun acc p => ins p acc) acc).length ≤ acc.length + ps.length := by
    intro ps
    induction ps with
    | nil => intro acc; exact Nat.le_refl _
    | cons p ps ih =>
      intro acc
      have h1 := ih (ins p acc)
      have h2 := ins_len p acc
      rw [List.foldl_cons, List.length_cons]
      omega
  have h1 := key ps []
  have h2 := List.length_filter_le (fun p : Pr => decide (p.2 ≠ 0)) (sortP ps)
  unfold nrm
  unfold sortP at h2 ⊢
  simp at h1
  omega
/-- the functions of sums -/
def mkS (n : Int) (ps : List Pr) : Sm := (n, nrm ps)
def addS (s o : Sm) : Sm := mkS (s.1 + o.1) (s.2 ++ o.2)
def timS (c : Int) (s : Sm) : Sm := mkS (c * s.1) (s.2.map fun p => (p.1, c * p.2))
def woS (s : Sm) (x : Str) : Sm := mkS s.1 (s.2.filter fun p => decide (p.1 ≠ x))
def putS (s : Sm) (x : Str) (o : Sm) : Sm := addS (woS s x) (timS (shr s.2 x) o)
def valS (f : Str → Int) (s : Sm) : Int := s.1 + dot f s.2
theorem val_mk (f : Str → Int) (n : Int) (ps : List Pr) : valS f (mkS n ps) = n + dot f ps := by unfold valS mkS; rw [nrm_dot]
theorem val_add (f : Str → Int) (s o : Sm) : valS f (addS s o) = valS f s + valS f o := by
  unfold addS
  rw [val_mk, dot_app]
  unfold valS
  omega
theorem dot_map (f : Str → Int) (c : Int) (ps : List Pr) : dot f (ps.map fun p => (p.1, c * p.2)) = c * dot f ps := by
  induction ps with
  | nil => rw [List.map_nil, dot_nil, Int.mul_zero]
  | cons p ps ih => rw [List.map_cons, dot_cons, dot_cons, ih, Int.mul_add, Int.mul_assoc]
theorem val_tim (f : Str → Int) (c : Int) (s : Sm) : valS f (timS c s) = c * valS f s := by
  unfold timS
  rw [val_mk, dot_map]
  unfold valS
  rw [Int.mul_add]
theorem dot_wo (f : Str → Int) (ps : List Pr) (x : Str) : dot f (ps.filter fun p => decide (p.1 ≠ x)) = dot f ps - shr ps x * f x := by
  induction ps with
  | nil => rw [List.filter_nil, dot_nil, shr_nil, Int.zero_mul]; rfl
  | cons p ps ih =>
    rw [List.filter_cons, shr_cons, dot_cons]
    by_cases h : p.1 = x
    · rw [if_neg (by simp [h]), if_pos h, ih, h, Int.add_mul]
      omega
    · rw [if_pos (by simpa using h), if_neg h, dot_cons, ih, Int.zero_add]
      omega
theorem val_wo (f : Str → Int) (s : Sm) (x : Str) : valS f (woS s x) = valS f s - shr s.2 x * f x := by
  unfold woS
  rw [val_mk, dot_wo]
  unfold valS
  omega
theorem val_put (f : Str → Int) (s : Sm) (x : Str) (o : Sm) : valS f (putS s x o) = valS f s - shr s.2 x * f x + shr s.2 x * valS f o := by
  unfold putS
  rw [val_add, val_wo, val_tim]
theorem shr_wo (s : Sm) (x y : Str) : shr (woS s x).2 y = if y = x then 0 else shr s.2 y := by
  show shr (nrm _) y = _
  rw [nrm_shr, shr_dot, dot_wo, ← shr_dot]
  by_cases h : y = x
  · subst h
    rw [if_pos rfl, if_pos rfl, Int.mul_one, Int.sub_self]
  · rw [if_neg h, if_neg (fun e => h e.symm), Int.mul_zero, Int.sub_zero]
theorem shr_add (s o : Sm) (y : Str) : shr (addS s o).2 y = shr s.2 y + shr o.2 y := by
  show shr (nrm _) y = _
  rw [nrm_shr, shr_app]
theorem shr_tim (c : Int) (s : Sm) (y : Str) : shr (timS c s).2 y = c * shr s.2 y := by
  show shr (nrm _) y = _
  rw [nrm_shr, shr_dot, dot_map, ← shr_dot]
theorem shr_put (s : Sm) (x : Str) (o : Sm) (y : Str) : shr (putS s x o).2 y = (if y = x then 0 else shr s.2 y) + shr s.2 x * shr o.2 y := by
  unfold putS
  rw [shr_add, shr_wo, shr_tim]
/-! ### numbers that may be multiplied -/
def Sml (i : Int) : Prop := i.natAbs.log2 < 400000
theorem sml_of {i : Int} {n : Nat} (h : i.natAbs < 2 ^ n) (hn : n ≤ 400000) : Sml i := by
  unfold Sml
  by_cases h0 : i.natAbs = 0
  · rw [h0]; decide
  · have := (Nat.log2_lt h0).mpr h
    omega
theorem ten_two : (10 : Nat) ^ 60 < 2 ^ 200 := by decide
theorem sml_big (c : Int) : Sml (bigBy c) := sml_of (Nat.lt_trans (bigBy_b c) ten_two) (by decide)
theorem sml_small {i : Int} (h : i.natAbs < 2 ^ 64) : Sml i := sml_of h (by decide)
theorem mul_ok {i j : Int} (h1 : Sml i) (h2 : Sml j) : CMulW i j := by
  unfold Sml at h1 h2
  unfold CMulW
  omega
/-- the numbers of a sum -/
def SmlS (s : Sm) : Prop := Sml s.1 ∧ ∀ p ∈ s.2, Sml p.2
/-! ### promises -/
def sp_mk (K : PySem.W.Frag) : Sp := fun vs H Q _ => ∃ (n : Int) (v : V) (ps : List Pr), vs = [.int n, v] ∧ Dp K H v (.list (ps.map prT)) ∧ ps.length < 64 ∧
  ∀ t H', Same H H' → Dp K H' (.ref t) (sumD (mkS n ps)) → Q (.ref t) H'
theorem mk_imp {K : PySem.W.Frag} (vs : List V) (H : Hp) (Q : VK) (E : XK) (h : sp_mk K vs H Q E) : sp_made K vs H Q E := by
  obtain ⟨n, v, ps, e, hd, hl, q⟩ := h
  refine ⟨n, v, ps, e, hd, hl, fun t H' out e n s sub d => q t H' e ?_⟩
  rw [norm_is n s] at d
  exact d
def sp_added (K : PySem.W.Frag) : Sp := fun vs H Q _ => ∃ (v u : V) (s o : Sm), vs = [v, u] ∧ Dp K H v (sumD s) ∧ Dp K H u (sumD o) ∧ s.2.length + o.2.length < 64 ∧
  ∀ t H', Same H H' → Dp K H' (.ref t) (sumD (addS s o)) → Q (.ref t) H'
def sp_times (K : PySem.W.Frag) : Sp := fun vs H Q _ => ∃ (c : Int) (v : V) (s : Sm), vs = [.int c, v] ∧ Dp K H v (sumD s) ∧ s.2.length < 64 ∧ Sml c ∧ SmlS s ∧
  ∀ t H', Same H H' → Dp K H' (.ref t) (sumD (timS c s)) → Q (.ref t) H'
def sp_without (K : PySem.W.Frag) : Sp := fun vs H Q _ => ∃ (v : V) (s : Sm) (x : Str), vs = [v, .str x] ∧ Dp K H v (sumD s) ∧ s.2.length < 64 ∧
  ∀ t H', Same H H' → Dp K H' (.ref t) (sumD (woS s x)) → Q (.ref t) H'
def sp_put_in (K : PySem.W.Frag) : Sp := fun vs H Q _ => ∃ (v u : V) (s o : Sm) (x : Str), vs = [v, .str x, u] ∧ Dp K H v (sumD s) ∧ Dp K H u (sumD o) ∧ (s.2.map (·.1)).Nodup ∧ s.2.length + o.2.length < 64 ∧ SmlS s ∧ SmlS o ∧
  ∀ t H', Same H H' → Dp K H' (.ref t) (sumD (putS s x o)) → Q (.ref t) H'
/-- values told by a dict -/
def look (m : List Pr) (x : Str) : Int := (getP m x).getD 0
theorem getP_look {m : List Pr} {x : Str} (h : x ∈ m.map (·.1)) : getP m x = some (look m x) := by
  have h2 := getP_some (m := m) (x := x)
  rw [decide_eq_true h] at h2
  unfold look
  cases q1 : getP m x with
  | none => rw [q1] at h2; cases h2
  | some k => rfl
theorem look_sml {m : List Pr} {x : Str} (sm : ∀ q ∈ m, Sml q.2) (hv : getP m x = some (look m x)) : Sml (look m x) := by
  unfold getP at hv
  cases q1 : m.find? (fun q => decide (q.1 = x)) with
  | none => rw [q1] at hv; cases hv
  | some k =>
    rw [q1] at hv
    have hv' := Option.some.inj hv
    rw [← hv']
    exact sm k (List.mem_of_find?_eq_some q1)
def sp_value (K : PySem.W.Frag) (NV : Addr) : Sp := fun vs H Q E => ∃ (v : V) (d : Addr) (s : Sm) (m : List Pr), vs = [v, .ref d] ∧ Dp K H v (sumD s) ∧ H d = some (.dK (dOf m)) ∧ SmlS s ∧ (∀ q ∈ m, Sml q.2) ∧ (∀ p ∈ s.2, p.1.length ≤ 1000) ∧
  ((∀ p ∈ s.2, p.1 ∈ m.map (·.1)) → Q (.int (valS (look m) s)) H) ∧ ((∃ p ∈ s.2, p.1 ∉ m.map (·.1)) → E (.ref NV) none H)
/-! ### the sums that the law draws -/
def srt (xs : List Str) : List Str := (sortP (xs.map fun x => (x, 0))).map (·.1)
theorem srt_rise (xs : List Str) : Rising (srt xs) := sortP_rise _
theorem srt_mem (xs : List Str) (x : Str) : x ∈ srt xs ↔ x ∈ xs := by
  unfold srt
  rw [sortP_mem, List.map_map]
  show x ∈ xs.map id ↔ _
  rw [List.map_id]
theorem srt_is {xs ys : List Str} (nd : xs.Nodup) (hp : ys.Perm xs) (hs : sortedS ys = true) : ys = srt xs :=
  rising_ext (rising_of (hp.nodup_iff.mpr nd) hs) (srt_rise xs) fun x => by rw [hp.mem_iff, srt_mem]
def byOf (wd m : Int) : Int := m / 7 % (2 * wd + 1) - wd
theorem byOf_b {wd : Int} (h : 0 ≤ wd) (m : Int) : -wd ≤ byOf wd m ∧ byOf wd m ≤ wd := by
  have h1 : 0 ≤ m / 7 % (2 * wd + 1) := Int.emod_nonneg _ (by omega)
  have h2 : m / 7 % (2 * wd + 1) < 2 * wd + 1 := Int.emod_lt_of_pos _ (by omega)
  unfold byOf
  omega
def sumTurn (wd : Int) (s : Int × List Pr) (x : Str) : Int × List Pr := (mixN s.1, if byOf wd (mixN s.1) = 0 then s.2 else s.2 ++ [(x, byOf wd (mixN s.1))])
def sumRun (wd c : Int) (ys : List Str) : Int × List Pr := ys.foldl (sumTurn wd) (c, [])
theorem sumRun_more (wd c : Int) (ys : List Str) (x : Str) : sumRun wd c (ys ++ [x]) = sumTurn wd (sumRun wd c ys) x := by
  unfold sumRun
  rw [List.foldl_append]
  rfl
def sumBy (c : Int) (names : List Str) (wd : Int) : Sm := (mixN (sumRun wd c (srt names)).1 / 7 % 19 - 9, (sumRun wd c (srt names)).2)
/-- the parts so far: some of the names, in their order -/
theorem sumRun_ok (wd c : Int) (hw : 0 ≤ wd) : ∀ ys : List Str, ((sumRun wd c ys).2.map (·.1)).Sublist ys ∧ (∀ p ∈ (sumRun wd c ys).2, p.2 ≠ 0 ∧ p.2.natAbs ≤ wd.toNat) := by
  intro ys
  have key : ∀ n, ∀ ys : List Str, ys.length = n → ((sumRun wd c ys).2.map (·.1)).Sublist ys ∧ (∀ p ∈ (sumRun wd c ys).2, p.2 ≠ 0 ∧ p.2.natAbs ≤ wd.toNat) := by
    intro n
    induction n with
    | zero =>
      intro ys h
      cases ys with
      | nil => exact ⟨List.Sublist.slnil, fun p hp => by cases hp⟩
      | cons y ys => simp at h
    | succ n ih =>
      intro ys h
      have hne : ys ≠ [] := fun e => by rw [e] at h; simp at h
      have e := List.dropLast_concat_getLast hne
      generalize ys.dropLast = zs at e
      generalize ys.getLast hne = x at e
      subst e
      have ih' := ih zs (by simpa using h)
      rw [sumRun_more]
      have hb := byOf_b hw (mixN (sumRun wd c zs).1)
      unfold sumTurn
      by_cases h0 : byOf wd (mixN (sumRun wd c zs).1) = 0
      · simp only [if_pos h0]
        exact ⟨ih'.1.trans (List.sublist_append_left _ _), ih'.2⟩
      · simp only [if_neg h0]
        refine ⟨?_, fun p hp => ?_⟩
        · rw [List.map_append]
          exact ih'.1.append (List.Sublist.refl _)
        · rcases List.mem_append.mp hp with hp | hp
          · exact ih'.2 p hp
          · simp at hp
            subst hp
            exact ⟨h0, by show (byOf wd _).natAbs ≤ _; omega⟩
  exact key _ ys rfl
theorem sumBy_norm {c wd : Int} {names : List Str} (hw : 0 ≤ wd) : Norm (sumBy c names wd).2 where
  rise := List.Pairwise.sublist (sumRun_ok wd c hw _).1 (srt_rise names)
  nz := fun p hp => ((sumRun_ok wd c hw _).2 p hp).1
theorem sumBy_mem {c wd : Int} {names : List Str} (hw : 0 ≤ wd) {p : Pr} (hp : p ∈ (sumBy c names wd).2) : p.1 ∈ names :=
  (srt_mem names _).mp ((sumRun_ok wd c hw _).1.subset (List.mem_map_of_mem hp))
theorem sumBy_by {c wd : Int} {names : List Str} (hw : 0 ≤ wd) {p : Pr} (hp : p ∈ (sumBy c names wd).2) : p.2.natAbs ≤ wd.toNat := ((sumRun_ok wd c hw _).2 p hp).2
theorem srt_len (xs : List Str) : (srt xs).length ≤ xs.length := by
  unfold srt
  rw [List.length_map]
  have key : ∀ (ps acc : List Pr), (ps.foldl (fun acc p => ins p acc) acc).length ≤ acc.length + ps.length := by
    intro ps
    induction ps with
    | nil => intro acc; exact Nat.le_refl _
    | cons p ps ih =>
      intro acc
      have h1 := ih (ins p acc)
      have h2 := ins_len p acc
      rw [List.foldl_cons, List.length_cons]
      omega
  have := key (xs.map fun x => (x, 0)) []
  rw [List.length_map] at this
  unfold sortP
  simpa using this
theorem sumBy_len {c wd : Int} {names : List Str} (hw : 0 ≤ wd) : (sumBy c names wd).2.length ≤ names.length := by
  have h1 := (sumRun_ok wd c hw (srt names)).1.length_le
  rw [List.length_map] at h1
  exact Nat.le_trans h1 (srt_len names)
theorem sumBy_num (c wd : Int) (names : List Str) : (sumBy c names wd).1.natAbs ≤ 9 := by
  have h1 : 0 ≤ mixN (sumRun wd c (srt names)).1 / 7 % 19 := Int.emod_nonneg _ (by decide)
  have h2 : mixN (sumRun wd c (srt names)).1 / 7 % 19 < 19 := Int.emod_lt_of_pos _ (by decide)
  show (mixN (sumRun wd c (srt names)).1 / 7 % 19 - 9).natAbs ≤ 9
  omega
theorem sumBy_sml {c wd : Int} {names : List Str} (hw : 0 ≤ wd) (hw2 : wd ≤ 1000) : SmlS (sumBy c names wd) := by
  refine ⟨sml_small ?_, fun p hp => sml_small ?_⟩
  · have := sumBy_num c wd names
    exact Nat.lt_of_le_of_lt this (by decide)
  · have := sumBy_by hw hp
    exact Nat.lt_of_le_of_lt this (by omega)
theorem inV_str (x : Str) (xs : List Str) : inV (.str x) (xs.map V.str) = decide (x ∈ xs) := by
  unfold inV
  rw [List.any_map, Bool.eq_iff_iff]
  simp only [List.any_eq_true, decide_eq_true_eq, Function.comp, eqV, beq_iff_eq]
  constructor
  · rintro ⟨y, hy, rfl⟩
    exact hy
  · intro h
    exact ⟨x, h, rfl⟩
theorem flat_strs (xs : List Str) : (xs.map V.str).all flatV = true := by
  rw [List.all_map]
  simp [flatV]
def sp_sum_by (K : PySem.W.Frag) : Sp := fun vs H Q _ => ∃ (c wd : Int) (nl : Addr) (names : List Str), vs = [.int c, .ref nl, .int wd] ∧ SqL K H nl (names.map V.str) ∧ names.Nodup ∧ names.length ≤ 8 ∧ 0 ≤ wd ∧ wd ≤ 1000 ∧
  ∀ t H', Same H H' → Dp K H' (.ref t) (sumD (sumBy c names wd)) → Q (.ref t) H'
def sp_lvalue (K : PySem.W.Frag) : Sp := fun vs H Q _ => ∃ (v : V) (d : Addr) (s : Sm) (m : List Pr), vs = [v, .ref d] ∧ Dp K H v (sumD s) ∧ H d = some (.dK (dOf m)) ∧ SmlS s ∧ (∀ q ∈ m, Sml q.2) ∧ (∀ p ∈ s.2, p.1 ∈ m.map (·.1)) ∧ Q (.int (valS (look m) s)) H
def sp_sum_is (K : PySem.W.Frag) : Sp := fun vs H Q _ => ∃ (v : V) (nl : Addr) (s : Sm) (names : List Str), vs = [v, .ref nl] ∧ Dp K H v (sumD s) ∧ SqL K H nl (names.map V.str) ∧ Norm s.2 ∧ (∀ p ∈ s.2, p.1 ∈ names ∧ p.1.cps.toList ≠ []) ∧ Q (.bl true) H
/-- the name before place i, nothing ahead of all -/
def lastN (ps : List Pr) : Nat → Str
  | 0 => ""
  | i + 1 => (ps.getD i ("", 0)).1
theorem lastN_next {ps : List Pr} {i : Nat} {p : Pr} (h : ps[i]? = some p) : lastN ps (i + 1) = p.1 := by
  show (ps.getD i ("", 0)).1 = p.1
  rw [List.getD_eq_getElem?_getD, h]
  rfl
theorem lastN_lt {ps : List Pr} {i : Nat} {p : Pr} (no : Norm ps) (h : ps[i]? = some p) (h0 : p.1.cps.toList ≠ []) : (lastN ps i).cps.toList < p.1.cps.toList := by
  cases i with
  | zero =>
    show ([] : List Nat) < _
    cases e : p.1.cps.toList with
    | nil => exact absurd e h0
    | cons x xs => exact List.Lex.nil
  | succ i =>
    have hlt : i + 1 < ps.length := (List.getElem?_eq_some_iff.mp h).1
    have hp : ps[i]? = some ps[i] := List.getElem?_eq_getElem (by omega)
    rw [lastN_next hp]
    have r := List.pairwise_iff_getElem.mp no.rise i (i + 1) (by simpa using (by omega : i < ps.length)) (by simpa using hlt) (by omega)
    rw [List.getElem_map, List.getElem_map] at r
    have e2 : ps[i + 1] = p := (List.getElem?_eq_some_iff.mp h).2
    rw [e2] at r
    exact slt_lt.mp r
/-- refused of k02 -/
def sp_refused2 (K : PySem.W.Frag) : Sp := fun vs H Q _ => ∃ (v : V) (d : Addr) (s : Sm) (m : List Pr), vs = [v, .ref d] ∧ Dp K H v (sumD s) ∧ H d = some (.dK (dOf m)) ∧ SmlS s ∧ (∀ q ∈ m, Sml q.2) ∧ (∀ p ∈ s.2, p.1.length ≤ 1000) ∧
  ∀ H', Same H H' → Q (.str (if s.2.all fun p => decide (p.1 ∈ m.map (·.1)) then "" else "no value")) H'
end XS

namespace XS
open PySem PySem.Spec PyProof.Rows L2
/-! ### pieces of lists -/
theorem cut_take (xs : List V) (k : Nat) : cutV xs none (some (k : Int)) = xs.take k := by
  unfold cutV
  rw [HT.sIx_none, HT.sIx_nat, List.drop_zero, Nat.sub_zero]
  rcases Nat.le_total k xs.length with h | h
  · rw [Nat.min_eq_left h]
  · rw [Nat.min_eq_right h, List.take_length, List.take_of_length_le h]
theorem cut_drop (xs : List V) (k : Nat) : cutV xs (some (k : Int)) none = xs.drop k := by
  unfold cutV
  rw [HT.sIx_none, HT.sIx_nat]
  rcases Nat.le_total k xs.length with h | h
  · rw [Nat.min_eq_left h, List.take_of_length_le (by rw [List.length_drop]; exact Nat.le_refl _)]
  · rw [Nat.min_eq_right h, List.drop_eq_nil_of_le h, List.drop_eq_nil_of_le (Nat.le_refl _)]
    simp
/-! ### values -/
theorem putP_new {m : List Pr} {x : Str} {v : Int} (h : x ∉ m.map (·.1)) : putP m x v = m ++ [(x, v)] := by
  unfold putP
  rw [getP_any, decide_eq_false h, if_neg Bool.false_ne_true]
def dropP (m : List Pr) (x : Str) : List Pr := m.filter fun p => decide (p.1 ≠ x)
theorem dOf_drop (m : List Pr) (x : Str) : dropK (dOf m) (Sum.inr x : Key) = dOf (dropP m x) := by
  unfold dropK dOf dropP
  rw [List.filter_map]
  congr 1
  refine List.filter_congr fun p _ => ?_
  show decide ((Sum.inr p.1 : Key) ≠ Sum.inr x) = decide (p.1 ≠ x)
  rw [decide_not, decide_not, inr_dec]
theorem dropP_names (m : List Pr) (x y : Str) : y ∈ (dropP m x).map (·.1) ↔ y ∈ m.map (·.1) ∧ y ≠ x := by
  unfold dropP
  simp only [List.mem_map, List.mem_filter, decide_eq_true_eq]
  constructor
  · rintro ⟨p, ⟨h1, h2⟩, rfl⟩
    exact ⟨⟨p, h1, rfl⟩, h2⟩
  · rintro ⟨⟨p, h1, rfl⟩, h2⟩
    exact ⟨p, ⟨h1, h2⟩, rfl⟩
theorem dropP_nd {m : List Pr} (x : Str) (nd : (m.map (·.1)).Nodup) : ((dropP m x).map (·.1)).Nodup := List.Nodup.sublist ((List.filter_sublist).map _) nd
theorem dOf_self {m : List Pr} (nd : (m.map (·.1)).Nodup) : ∀ p ∈ dOf m, valV (dOf m) p.1 = some p.2 ∧ flatB p.2 = true := by
  intro q hq
  obtain ⟨p, hp, rfl⟩ := List.mem_map.mp hq
  refine ⟨?_, rfl⟩
  show valV (dOf m) (Sum.inr p.1 : Key) = some (V.int p.2)
  rw [dOf_val]
  have : getP m p.1 = some p.2 := by
    clear hq
    induction m with
    | nil => cases hp
    | cons q m ih =>
      have nd' := List.nodup_cons.mp (show (q.1 :: m.map (·.1)).Nodup from nd)
      unfold getP at ih ⊢
      rw [List.find?_cons]
      rcases List.mem_cons.mp hp with rfl | hp
      · rw [decide_eq_true rfl]; rfl
      · rw [decide_eq_false (fun e => nd'.1 (by rw [e]; exact List.mem_map_of_mem hp))]
        exact ih nd'.2 hp
  rw [this]
  rfl
/-! ### bounds -/
def Bnd (n k : Nat) (s : Sm) : Prop := s.1.natAbs ≤ n ∧ ∀ x, (shr s.2 x).natAbs ≤ k
theorem Bnd.sml {n k : Nat} {s : Sm} (b : Bnd n k s) (nd : (s.2.map (·.1)).Nodup) (hn : n < 2 ^ 250) (hk : k < 2 ^ 250) : SmlS s :=
  ⟨sml_of (Nat.lt_of_le_of_lt b.1 hn) (by decide), fun p hp => sml_of (n := 250) (Nat.lt_of_le_of_lt (by rw [← shr_at nd hp]; exact b.2 p.1) hk) (by decide)⟩
theorem Bnd.mono {n k n' k' : Nat} {s : Sm} (b : Bnd n k s) (h1 : n ≤ n') (h2 : k ≤ k') : Bnd n' k' s := ⟨Nat.le_trans b.1 h1, fun x => Nat.le_trans (b.2 x) h2⟩
theorem Bnd.add {n k n' k' : Nat} {s o : Sm} (b : Bnd n k s) (c : Bnd n' k' o) : Bnd (n + n') (k + k') (addS s o) := by
  refine ⟨?_, fun x => ?_⟩
  · have h1 := b.1; have h2 := c.1
    show (s.1 + o.1).natAbs ≤ _
    omega
  · rw [shr_add]
    have h1 := b.2 x; have h2 := c.2 x
    omega
theorem Bnd.tim {n k m : Nat} {c : Int} {s : Sm} (b : Bnd n k s) (h : c.natAbs ≤ m) : Bnd (m * n) (m * k) (timS c s) := by
  refine ⟨?_, fun x => ?_⟩
  · show (c * s.1).natAbs ≤ _
    rw [Int.natAbs_mul]
    exact Nat.mul_le_mul h b.1
  · rw [shr_tim, Int.natAbs_mul]
    exact Nat.mul_le_mul h (b.2 x)
theorem Bnd.wo {n k : Nat} {s : Sm} (b : Bnd n k s) (x : Str) : Bnd n k (woS s x) := by
  refine ⟨b.1, fun y => ?_⟩
  rw [shr_wo]
  split
  · exact Nat.zero_le _
  · exact b.2 y
theorem Bnd.put {n k n' k' : Nat} {s o : Sm} (b : Bnd n k s) (x : Str) (c : Bnd n' k' o) : Bnd (n + k * n') (k + k * k') (putS s x o) := (b.wo x).add (c.tim (b.2 x))
theorem bnd_by {c wd : Int} {names : List Str} (hw : 0 ≤ wd) : Bnd 9 wd.toNat (sumBy c names wd) := by
  refine ⟨sumBy_num c wd names, fun x => ?_⟩
  by_cases h : x ∈ (sumBy c names wd).2.map (·.1)
  · obtain ⟨p, hp, rfl⟩ := List.mem_map.mp h
    rw [shr_at (sumBy_norm hw).rise.nodup hp]
    exact sumBy_by hw hp
  · rw [shr_out h]
    exact Nat.zero_le _
/-! ### names -/
theorem add_mem {s o : Sm} {x : Str} (h : x ∈ (addS s o).2.map (·.1)) : x ∈ s.2.map (·.1) ∨ x ∈ o.2.map (·.1) := by
  have := nrm_mem h
  rw [List.map_append, List.mem_append] at this
  exact this
theorem tim_mem {c : Int} {s : Sm} {x : Str} (h : x ∈ (timS c s).2.map (·.1)) : x ∈ s.2.map (·.1) := by
  have := nrm_mem h
  rw [List.map_map] at this
  exact this
theorem wo_mem {s : Sm} {x y : Str} (h : y ∈ (woS s x).2.map (·.1)) : y ∈ s.2.map (·.1) ∧ y ≠ x := by
  have := nrm_mem h
  obtain ⟨p, hp, rfl⟩ := List.mem_map.mp this
  have h2 := List.mem_filter.mp hp
  exact ⟨List.mem_map_of_mem h2.1, by simpa using h2.2⟩
theorem put_mem {s o : Sm} {x y : Str} (h : y ∈ (putS s x o).2.map (·.1)) : y ∈ s.2.map (·.1) ∨ y ∈ o.2.map (·.1) := by
  rcases add_mem h with h | h
  · exact .inl (wo_mem h).1
  · exact .inr (tim_mem h)
/-- a sum, a number -/
def rowD (r : Sm × Int) : PyData := .tuple [sumD r.1, .int r.2]
theorem im_row (r : Sm × Int) : Im (rowD r) := im_tup2 (im_sum _) (.int _)
theorem Dp.row {K : PySem.W.Frag} {H : Hp} {v : V} {r : Sm × Int} (h : Dp K H v (rowD r)) : ∃ a u, v = .ref a ∧ SqT K H a [u, .int r.2] ∧ Dp K H u (sumD r.1) := by
  cases h with
  | tup hs ha =>
    cases ha with
    | cons h1 h2 =>
      cases h2 with
      | cons h3 h4 =>
        cases h3
        cases h4
        exact ⟨_, _, rfl, hs, h1⟩
end XS
namespace XS
open PySem PySem.Spec PyProof.Rows L2
theorem cut_take3 (xs : List V) : cutV xs none (some 3) = xs.take 3 := cut_take xs 3
theorem cut_drop1 (xs : List V) : cutV xs (some 1) none = xs.drop 1 := cut_drop xs 1
theorem getAt {m : List Pr} {x : Str} {H : Hp} {d : Addr} (hd : H d = some (.dK (dOf m))) (h : x ∈ m.map (·.1)) : DGet H d (.str x) (some (.int (look m x))) := by
  have g := DGet.k (k := Sum.inr x) hd
  rw [dOf_val, getP_look h] at g
  exact g
theorem getAny {m : List Pr} {x : Str} {H : Hp} {d : Addr} (hd : H d = some (.dK (dOf m))) : DGet H d (.str x) ((getP m x).map V.int) := by
  have g := DGet.k (k := Sum.inr x) hd
  rw [dOf_val] at g
  exact g
end XS
namespace XS
open PySem PySem.Spec PyProof.Rows L2
theorem dot_b {f : Str → Int} {k B : Nat} : ∀ {ps : List Pr}, (∀ p ∈ ps, p.2.natAbs ≤ k) → (∀ x, (f x).natAbs ≤ B) → (dot f ps).natAbs ≤ ps.length * (k * B)
  | [], _, _ => by rw [dot_nil]; exact Nat.zero_le _
  | p :: ps, h, hf => by
    rw [dot_cons, List.length_cons, Nat.add_mul, Nat.one_mul]
    have h1 := dot_b (ps := ps) (fun q hq => h q (List.mem_cons_of_mem _ hq)) hf
    have h2 : (p.2 * f p.1).natAbs ≤ k * B := by
      rw [Int.natAbs_mul]
      exact Nat.mul_le_mul (h p (List.mem_cons_self ..)) (hf p.1)
    have h3 := Int.natAbs_add_le (p.2 * f p.1) (dot f ps)
    omega
theorem look_b {m : List Pr} {B : Nat} (h : ∀ q ∈ m, q.2.natAbs ≤ B) (x : Str) : (look m x).natAbs ≤ B := by
  unfold look getP
  cases e : m.find? (fun p => decide (p.1 = x)) with
  | none => exact Nat.zero_le _
  | some p => exact h p (List.mem_of_find?_eq_some e)
theorem Bnd.prt {n k : Nat} {s : Sm} (b : Bnd n k s) (nd : (s.2.map (·.1)).Nodup) : ∀ p ∈ s.2, p.2.natAbs ≤ k := fun p hp => by rw [← shr_at nd hp]; exact b.2 p.1
theorem Bnd.val {n k B : Nat} {s : Sm} {m : List Pr} (b : Bnd n k s) (nd : (s.2.map (·.1)).Nodup) (h : ∀ q ∈ m, q.2.natAbs ≤ B) : (valS (look m) s).natAbs ≤ n + s.2.length * (k * B) := by
  have h1 := dot_b (f := look m) (b.prt nd) (look_b h)
  have h2 := b.1
  unfold valS
  omega
theorem sml_of' {i : Int} {n : Nat} (h : i.natAbs ≤ n) (hn : n < 2 ^ 250) : Sml i := sml_of (Nat.lt_of_le_of_lt h hn) (by decide)
theorem sml_all {m : List Pr} (h : ∀ q ∈ m, q.2.natAbs ≤ 10 ^ 60) : ∀ q ∈ m, Sml q.2 := fun q hq => sml_of' (h q hq) (by decide)
end XS
namespace XS
open PySem PySem.Spec PyProof.Rows L2
theorem none_of {H H1 : Hp} {p : Addr} (e : Same H H1) (h : H1 p = none) : H p = none := by
  cases q : H p with
  | none => rfl
  | some u => rw [e _ _ q] at h; cases h
theorem x_dpop1 {td ty : TE} {σ : L2.St} {H : Hp} {Q : VK} (h : td σ H fun x H1 => ∃ a, x = .ref a ∧ IsD H1 a ∧ ty σ H1 fun y H2 => ∃ kvs k v, H2 a = some (.dK kvs) ∧ y = kV k ∧ valV kvs k = some v ∧ Q v (upd H2 a (.dK (dropK kvs k)))) : tDPop1 td ty σ H Q := h
theorem Dp.mkRow {K : PySem.W.Frag} {H : Hp} {a : Addr} {u : V} {r : Sm × Int} (h1 : SqT K H a [u, .int r.2]) (h2 : Dp K H u (sumD r.1)) : Dp K H (.ref a) (rowD r) := .tup h1 (.cons h2 (.cons (.int _) .nil))
theorem isD_of {H : Hp} {a : Addr} {m : List (Key × V)} (h : H a = some (.dK m)) : IsD H a := .inl ⟨m, .inl h⟩
end XS

namespace XS
open PySem PySem.Spec PyProof.Rows L2
/-! ### what the top says of an error class -/
structure EcF (K : PySem.W.Frag) (D : Addr) : Prop where
  x : PySem.W.excIn K D [.type "ValueError", .type "Exception", .type "BaseException", .type "object"] "ValueError.__new__" = true
  k : PySem.W.keepIn K (.ref D) = true
  b : PySem.W.subIn K (.ref D) (.type "BaseException") = some true
  t : PySem.W.typeIn K (.ref D) = some (.type "type")
  d : PySem.W.hasDictIn K D = true
  ga : PySem.W.findIn K (.ref D) "__getattribute__" = some (some (.builtin "BaseException.__getattribute__"))
  gt : PySem.W.findIn K (.ref D) "__getattr__" = some none
  cl : PySem.W.findIn K (.ref D) "__class__" = some (some (.builtin "object.__class__"))
  mo : PySem.W.mroIn K D (.type "object") = some true
  ve : PySem.W.subIn K (.ref D) (.type "ValueError") = some true
  me : PySem.W.subIn K (.ref D) (.ref D) = some true
theorem EcF.c {K : PySem.W.Frag} {D : Addr} (e : EcF K D) (h1 : PySem.W.specialIn K (.builtin "object.__class__") "__get__" = some (some (.builtin "getset_descriptor.__get__"))) (h2 : PySem.W.takesIn K (.builtin "object.__class__") = some true) : ExcC K D :=
  ⟨e.ga, e.gt, e.b, e.d, e.cl, h1, h2, e.mo⟩
theorem kit_ref {K : PySem.W.Frag} {t : Value} {C : Addr} {b : Bool} (hd : PySem.W.hasDictIn K C = true) (ht : PySem.W.typeIn K (.ref C) = some (.type "type")) (h : PySem.W.subIn K t (.ref C) = some b) (hn : b = true ∨ (t == Value.ref C) = false) : PySem.W.kitOne K t (.ref C) = some b := by
  have hc : (PySem.W.clsIn K C).isSome = true := by
    unfold PySem.W.hasDictIn at hd
    cases e : PySem.W.clsIn K C with
    | none => rw [e] at hd; cases hd
    | some _ => rfl
  have e2 : ((PySem.W.clsIn K C).isSome && PySem.W.typeIn K (.ref C) == some (.type "type")) = true := by rw [hc, ht] <;> rfl
  have e3 : PySem.W.kitCls K t (.ref C) = some b := by
    show (if ((PySem.W.clsIn K C).isSome && PySem.W.typeIn K (.ref C) == some (.type "type")) = true then PySem.W.subIn K t (.ref C) else none) = some b
    rw [if_pos e2]
    exact h
  unfold PySem.W.kitOne
  rw [e3]
  split
  · rename_i e
    rcases hn with rfl | hn
    · rfl
    · rw [hn] at e; cases e
  · rfl
theorem kit_ve {K : PySem.W.Frag} {D : Addr} (h : PySem.W.subIn K (.ref D) (.type "ValueError") = some true) : PySem.W.kitOne K (.ref D) (.type "ValueError") = some true := by
  unfold PySem.W.kitOne
  have e : PySem.W.kitCls K (.ref D) (.type "ValueError") = some true := by
    show (if PySem.W.kitMeta "ValueError" = true then PySem.W.subIn K (.ref D) (.type "ValueError") else none) = some true
    rw [if_pos (by decide +kernel)]
    exact h
  rw [e]
  split <;> rfl
theorem er_mk {K : PySem.W.Frag} {mg : Str → Option Value} {S V P N : Addr} (gS : mg "SomeError" = some (.ref S)) (gV : mg "NoValue" = some (.ref V)) (gP : mg "NotPlain" = some (.ref P)) (gN : mg "NoNote" = some (.ref N))
    (s1 : PySem.W.specialIn K (.builtin "object.__class__") "__get__" = some (some (.builtin "getset_descriptor.__get__"))) (s2 : PySem.W.takesIn K (.builtin "object.__class__") = some true)
    (bS : PySem.W.subIn K (.ref S) (.type "BaseException") = some true) (dS : PySem.W.hasDictIn K S = true) (tS : PySem.W.typeIn K (.ref S) = some (.type "type")) (fV : EcF K V) (fP : EcF K P) (fN : EcF K N)
    (vS : PySem.W.subIn K (.ref V) (.ref S) = some true) (pS : PySem.W.subIn K (.ref P) (.ref S) = some true) (nS : PySem.W.subIn K (.ref N) (.ref S) = some true)
    (vp : PySem.W.subIn K (.ref V) (.ref P) = some false) (vn : PySem.W.subIn K (.ref V) (.ref N) = some false) (pv' : PySem.W.subIn K (.ref P) (.ref V) = some false) (pn : PySem.W.subIn K (.ref P) (.ref N) = some false)
    (nv : PySem.W.subIn K (.ref N) (.ref V) = some false) (np : PySem.W.subIn K (.ref N) (.ref P) = some false)
    (q1 : (Value.ref V == Value.ref P) = false) (q2 : (Value.ref V == Value.ref N) = false) (q3 : (Value.ref P == Value.ref V) = false) (q4 : (Value.ref P == Value.ref N) = false) (q5 : (Value.ref N == Value.ref V) = false) (q6 : (Value.ref N == Value.ref P) = false) : Er K mg S V P N where
  g_SomeError := gS
  g_NoValue := gV
  g_NotPlain := gP
  g_NoNote := gN
  x_NoValue := fV.x
  k_NoValue := fV.k
  b_NoValue := fV.b
  t_NoValue := fV.t
  c_NoValue := fV.c s1 s2
  x_NotPlain := fP.x
  k_NotPlain := fP.k
  b_NotPlain := fP.b
  t_NotPlain := fP.t
  c_NotPlain := fP.c s1 s2
  x_NoNote := fN.x
  k_NoNote := fN.k
  b_NoNote := fN.b
  t_NoNote := fN.t
  c_NoNote := fN.c s1 s2
  m_V := PySem.W.exm_ref bS dS tS vS
  m_P := PySem.W.exm_ref bS dS tS pS
  m_N := PySem.W.exm_ref bS dS tS nS
  i_VV := kit_ref fV.d fV.t fV.me (.inl rfl)
  i_VP := kit_ref fP.d fP.t vp (.inr q1)
  i_VN := kit_ref fN.d fN.t vn (.inr q2)
  i_V := kit_ve fV.ve
  i_PV := kit_ref fV.d fV.t pv' (.inr q3)
  i_PP := kit_ref fP.d fP.t fP.me (.inl rfl)
  i_PN := kit_ref fN.d fN.t pn (.inr q4)
  i_P := kit_ve fP.ve
  i_NV := kit_ref fV.d fV.t nv (.inr q5)
  i_NP := kit_ref fP.d fP.t np (.inr q6)
  i_NN := kit_ref fN.d fN.t fN.me (.inl rfl)
  i_N := kit_ve fN.ve
end XS

local macro_rules | `(tactic| walk_at "go1") => `(tactic| first
  | ((with_reducible apply XS.g_var); (with_reducible refine' XS.x_var ?e ?_); (case e => exact rfl))
  | with_reducible apply XS.x_c
  | with_reducible apply XS.x_op
  | with_reducible apply XS.x_I0
  | with_reducible apply XS.x_gname
  | with_reducible apply XS.x_sAsg
  | with_reducible apply XS.x_cons
  | with_reducible apply XS.x_nil
  | with_reducible apply XS.x_k
  | with_reducible apply XS.x_k2
  | with_reducible apply XS.x_ki
  | with_reducible apply XS.x_eqI
  | with_reducible apply XS.x_neI
  | with_reducible apply XS.x_eqS
  | with_reducible apply XS.x_neS
  | with_reducible apply XS.x_test
  | with_reducible apply XS.x_B
  | with_reducible apply XS.x_sIf
  | with_reducible apply XS.x_ret
  | with_reducible apply XS.x_call
  | with_reducible apply XS.x_cb
  | with_reducible apply XS.x_tup
  | with_reducible apply XS.x_lst
  | with_reducible apply XS.x_T
  | with_reducible apply XS.x_F
  | with_reducible apply XS.x_Tn
  | with_reducible apply XS.x_Fn
  | ((with_reducible apply XS.g_I); (with_reducible refine XS.x_I ?c ?_); (case c => first | decide | exact ⟨by decide, by decide⟩ | exact .inr ⟨by decide, by decide⟩ | exact .inl ⟨by decide, by decide⟩))
  | with_reducible apply XS.x_next
  | with_reducible apply XS.x_sNext
  | with_reducible apply XS.x_cont
  | with_reducible apply XS.x_sDrop
  | with_reducible apply XS.x_sSeq
  | with_reducible apply XS.x_asg
  | with_reducible apply XS.x_if
  | with_reducible apply XS.x_drop
  | with_reducible apply XS.x_and
  | with_reducible apply XS.x_or
  | with_reducible apply XS.x_not
  | with_reducible apply XS.x_andV
  | with_reducible apply XS.x_orV
  | with_reducible apply XS.x_notV
  | with_reducible apply XS.x_ifE
  | with_reducible apply XS.x_un
  | with_reducible apply XS.x_U
  | with_reducible apply XS.x_sl
  | with_reducible apply XS.x_part
  | with_reducible apply XS.x_nopart
  | with_reducible apply XS.x_bm
  | with_reducible apply XS.x_bm0
  | with_reducible apply XS.x_sFor
  | with_reducible apply XS.x_for
  | with_reducible apply XS.x_iL
  | with_reducible apply XS.x_iT
  | with_reducible apply XS.x_iR1
  | with_reducible apply XS.x_iR2
  | with_reducible apply XS.x_gcons
  | with_reducible apply XS.x_gnil
  | with_reducible apply XS.x_lc
  | with_reducible apply XS.x_callS
  | with_reducible apply XS.x_callP
  | with_reducible apply XS.x_M1
  | with_reducible apply XS.x_star
  | with_reducible apply XS.x_tyes
  | with_reducible apply XS.x_dput
  | with_reducible apply XS.x_sdput
  | with_reducible apply XS.x_dget2
  | with_reducible apply XS.x_dget
  | with_reducible apply XS.x_dnew
  | with_reducible apply XS.x_din
  | with_reducible apply XS.x_dnotin
  | with_reducible apply XS.x_dpop1
  | with_reducible refine XS.x_nx ?_
  | with_reducible refine XS.x_rt ?_
  | with_reducible refine XS.x_bk ?_
  | with_reducible refine XS.x_ct ?_
  | with_reducible apply XS.x_sAny)
local macro_rules | `(tactic| walk_at "go") => `(tactic| repeat walk_at "go1")
namespace R1
open PySem PySem.Spec PyProof.Rows L2 XS
def topS (i : Nat) : Stmt := PySem.Challenge.pw_somenumber_k02_sums_reckoned.main.body.getD i (.Pass ⟨0, 0, 0, 0⟩)
section
variable {P : Program} {w : World} {K : PySem.W.Frag} {mg : Str → Option Value} {base : Heap}

abbrev s__law_cell_at : Stmt := topS 14
abbrev N__law_cell_at : List Str := ["_law_script", "_law_k"]
abbrev P__law_cell_at : List Str := ["_law_script", "_law_k"]
theorem sc__law_cell_at : FnScope N__law_cell_at P__law_cell_at (defScope s__law_cell_at) := ⟨rfl, rfl, rfl, by decide +kernel, rfl, by decide +kernel, by decide +kernel⟩
theorem d__law_cell_at (F : FunAt K mg "_law_cell_at" s__law_cell_at P__law_cell_at) (Z : Bl mg) : DefAt P w K mg base CX0 1 "_law_cell_at" P__law_cell_at (sp_cell_at K) := by
  refine F.ok sc__law_cell_at (fun vs H Q E h => ?_) (fun f cdv A outer s H vs Q E hr h => ?_)
  · obtain ⟨a, ns, k, rfl, _⟩ := h
    rfl
  obtain ⟨a, ns, k, rfl, h0, hS, q⟩ := h
  refine ⟨_, (pss_cons (ps_if (pt_cmpR op_lt (pv 1) (pe_callB (call_lenK K) (by rfl) Z.len PySem.boot_len (pa_cons (pv 0) pa_nil)) (nomark _))
          (pss_one (ps_ret (pe_ix (ix_listK K) (pv 0) (pv 1) (fun _ _ => rfl)))) pss_nil)
        (pss_one (ps_ret pe_int))), ?_⟩
  walk_at "go"
  refine XS.x_lenL hS ?_
  walk_at "go"
  rw [List.length_map]
  refine XS.x_d (fun c => ?_) (fun c => ?_)
  · walk_at "go"
    refine XS.x_ixL hS (XS.atI_map h0 c) ?_
    unfold cell at q
    rw [if_pos c] at q
    exact q
  · walk_at "go"
    unfold cell at q
    rw [if_neg c] at q
    exact q

abbrev s__law_whole : Stmt := topS 15
abbrev N__law_whole : List Str := ["_law_got"]
abbrev P__law_whole : List Str := ["_law_got"]
theorem sc__law_whole : FnScope N__law_whole P__law_whole (defScope s__law_whole) := ⟨rfl, rfl, rfl, by decide +kernel, rfl, by decide +kernel, by decide +kernel⟩
theorem d__law_whole (F : FunAt K mg "_law_whole" s__law_whole P__law_whole) (Z : Bl mg) : DefAt P w K mg base CX0 1 "_law_whole" P__law_whole sp_whole := by
  refine F.ok sc__law_whole (fun vs H Q E h => ?_) (fun f cdv A outer s H vs Q E hr h => ?_)
  · obtain ⟨i, rfl, _⟩ := h
    rfl
  obtain ⟨i, rfl, q⟩ := h
  refine ⟨_, (pss_one (ps_ret (pe_and (pe_callB (call_isiK K) (by rfl) Z.isinstance (by decide +kernel) (pa_cons (pv 0) (pa_cons (pe_bltn (v := .ty "int") rfl Z.int (by decide +kernel) rfl) pa_nil))) (pe_one (pe_not (pe_callB (call_isiK K) (by rfl) Z.isinstance (by decide +kernel) (pa_cons (pv 0) (pa_cons (pe_bltn (v := .ty "bool") rfl Z.bool (by decide +kernel) rfl) pa_nil)))))))), ?_⟩
  walk_at "go"
  refine XS.x_isi (.base (.int i)) XS.k_int_int ?_
  walk_at "go"
  refine XS.x_isi (.base (.int i)) XS.k_int_bool ?_
  walk_at "go"
  exact q
abbrev s__law_big_by : Stmt := topS 18
abbrev N__law_big_by : List Str := ["_law_cell", "_law_number", "_law_mixed", "_law_k"]
abbrev P__law_big_by : List Str := ["_law_cell"]
theorem sc__law_big_by : FnScope N__law_big_by P__law_big_by (defScope s__law_big_by) := ⟨rfl, rfl, rfl, by decide +kernel, rfl, by decide +kernel, by decide +kernel⟩
theorem d__law_big_by (F : FunAt K mg "_law_big_by" s__law_big_by P__law_big_by) (Z : Bl mg) : DefAt P w K mg base CX0 1 "_law_big_by" P__law_big_by sp_big_by := by
  refine F.ok sc__law_big_by (fun vs H Q E h => ?_) (fun f cdv A outer s H vs Q E hr h => ?_)
  · obtain ⟨i, rfl, _⟩ := h
    rfl
  obtain ⟨c, rfl, q⟩ := h
  refine ⟨_, (pss_cons (ps_if (pt_cmpR op_gt (pe_op op_mod (pv 0) pe_int) pe_int (nomark _))
          (pss_one (ps_ret (pe_op op_sub (pe_op op_mod (pe_op op_fdiv (pv 0) pe_int) pe_int) pe_int))) pss_nil)
        (pss_cons (ps_set (i := 1) sc__law_big_by.nd rfl (Or.inl rfl) pe_int)
        (pss_cons (ps_set (i := 2) sc__law_big_by.nd rfl (Or.inl rfl) (pv 0))
        (pss_cons (ps_for PassesOwn.never rfl (pi_range1 rfl Z.range (pa_cons (pe_op op_add pe_int (pe_op op_mod (pe_op op_fdiv (pv 0) pe_int) pe_int)) pa_nil)) (pg_name (i := 3) sc__law_big_by.nd rfl (Or.inl rfl))
          (pss_cons (ps_set (i := 2) sc__law_big_by.nd rfl (Or.inl rfl) (pe_op op_mod (pe_op op_add (pe_op op_mul (pv 2) pe_int) pe_int) pe_int))
        (pss_one (ps_set (i := 1) sc__law_big_by.nd rfl (Or.inl rfl) (pe_op op_add (pe_op op_mul (pv 1) pe_int) (pe_op op_mod (pe_op op_fdiv (pv 2) pe_int) pe_int))))))
        (pss_one (ps_ret (pe_op op_mul (pe_ix (ix_listK K) (pe_lst (pa_cons pe_int (pa_cons (pe_un un_neg pe_int) pa_nil))) (pe_op op_mod (pe_op op_fdiv (pv 0) pe_int) pe_int) (fun _ _ => rfl)) (pv 1)))))))), ?_⟩
  walk_at "go"
  unfold bigBy at q
  refine XS.x_d (fun e => ?_) (fun e => ?_)
  · rw [if_pos e] at q
    walk_at "go"
    exact q _ (Same.refl _)
  · rw [if_neg e] at q
    walk_at "go"
    have h3 : 0 ≤ c / 8 % 60 := Int.emod_nonneg _ (by decide)
    have h4 : c / 8 % 60 < 60 := Int.emod_lt_of_pos _ (by decide)
    refine XS.x_forR1 (by omega) (fun i σ H' => ∃ y : Option V, σ = [some (.int c), some (.int (bigRun i (0, c)).1), some (.int (bigRun i (0, c)).2), y] ∧ H' = H) ⟨none, rfl, rfl⟩ ?_ ?_
    · rintro i σ H' hi ⟨y, rfl, rfl⟩
      walk_at "go"
      exact ⟨_, rfl, rfl⟩
    · rintro σ H' ⟨y, rfl, rfl⟩
      walk_at "go"
      refine ⟨(by show 2 ≤ sizeLine; decide), fun l hl => ?_⟩
      have e2 := XS.same_upd (o := .lst [.int 1, .int (-1)]) hl
      walk_at "go"
      have h5 : 0 ≤ c / 4 % 2 := Int.emod_nonneg _ (by decide)
      have h6 : c / 4 % 2 < 2 := Int.emod_lt_of_pos _ (by decide)
      by_cases z : c / 4 % 2 = 0
      · rw [if_pos z] at q
        rw [z]
        refine XS.x_ixL (SqL.of upd_same) (atI_get (i := 0) rfl) ?_
        walk_at "go"
        exact q _ e2
      · rw [if_neg z] at q
        rw [show c / 4 % 2 = 1 by omega]
        refine XS.x_ixL (SqL.of upd_same) (atI_get (i := 1) rfl) ?_
        walk_at "go"
        exact q _ e2

abbrev s__law_alike : Stmt := topS 22
abbrev N__law_alike : List Str := ["_law_got", "_law_due", "_law_k"]
abbrev P__law_alike : List Str := ["_law_got", "_law_due"]
theorem sc__law_alike : FnScope N__law_alike P__law_alike (defScope s__law_alike) := ⟨rfl, rfl, rfl, by decide +kernel, rfl, by decide +kernel, by decide +kernel⟩
theorem alike_step {n : Nat} (F : FunAt K mg "_law_alike" s__law_alike P__law_alike) (Z : Bl mg) (D__law_whole : DefAt P w K mg base CX0 1 "_law_whole" P__law_whole sp_whole)
    (D__law_alike : DefAt P w K mg base CX0 (n + 1) "_law_alike" P__law_alike (sp_alike n K)) : DefAt P w K mg base CX0 (n + 2) "_law_alike" P__law_alike (sp_alike (n + 1) K) := by
  refine F.ok sc__law_alike (fun vs H Q E h => ?_) (fun f cdv A outer s H vs Q E hr h => ?_)
  · obtain ⟨_, _, _, _, rfl, _⟩ := h
    rfl
  obtain ⟨g, e, d, k, rfl, hk, hg, he, al, q⟩ := h
  obtain rfl : k = n := by omega
  refine ⟨_, (pss_cons (ps_if (pt_cmpR op_isN (pv 1) pe_non (nomark _))
          (pss_one (ps_ret (pe_cmpR op_isN (pv 0) pe_non (nomark _)))) pss_nil)
        (pss_cons (ps_if (pt_cmpR op_isC (pv 1) pe_bl (nomark _))
          (pss_one (ps_ret (pe_cmpR op_isC (pv 0) pe_bl (nomark _)))) pss_nil)
        (pss_cons (ps_if (pt_val (pe_callB (call_isiK K) (by rfl) Z.isinstance (by decide +kernel) (pa_cons (pv 1) (pa_cons (pe_bltn (v := .ty "str") rfl Z.str (by decide +kernel) rfl) pa_nil))))
          (pss_one (ps_ret (pe_and (pe_callB (call_isiK K) (by rfl) Z.isinstance (by decide +kernel) (pa_cons (pv 0) (pa_cons (pe_bltn (v := .ty "str") rfl Z.str (by decide +kernel) rfl) pa_nil))) (pe_one (pe_cmpR op_eq (pv 0) (pv 1) (nomark _)))))) pss_nil)
        (pss_cons (ps_if (pt_val (pe_callB (call_isiK K) (by rfl) Z.isinstance (by decide +kernel) (pa_cons (pv 1) (pa_cons (pe_bltn (v := .ty "int") rfl Z.int (by decide +kernel) rfl) pa_nil))))
          (pss_one (ps_ret (pe_and (pe_callD D__law_whole (hr.mono (by first | exact Nat.le_refl _ | omega | decide)) rfl pass0 (pa_cons (pv 0) pa_nil)) (pe_one (pe_cmpR op_eq (pv 0) (pv 1) (nomark _)))))) pss_nil)
        (pss_cons (ps_if (PW.pt (pw_and (pt_val (pe_callB (call_isiK K) (by rfl) Z.isinstance (by decide +kernel) (pa_cons (pv 1) (pa_cons (pe_bltn (v := .ty "tuple") rfl Z.tuple (by decide +kernel) rfl) pa_nil)))) (pw_and1 (pt_not (pt_val (pe_callB (call_isiK K) (by rfl) Z.isinstance (by decide +kernel) (pa_cons (pv 0) (pa_cons (pe_bltn (v := .ty "tuple") rfl Z.tuple (by decide +kernel) rfl) pa_nil))))))))
          (pss_one (ps_ret pe_bl)) pss_nil)
        (pss_cons (ps_if (PW.pt (pw_and (pt_val (pe_callB (call_isiK K) (by rfl) Z.isinstance (by decide +kernel) (pa_cons (pv 1) (pa_cons (pe_bltn (v := .ty "list") rfl Z.list (by decide +kernel) rfl) pa_nil)))) (pw_and1 (pt_not (pt_val (pe_callB (call_isiK K) (by rfl) Z.isinstance (by decide +kernel) (pa_cons (pv 0) (pa_cons (pe_bltn (v := .ty "list") rfl Z.list (by decide +kernel) rfl) pa_nil))))))))
          (pss_one (ps_ret pe_bl)) pss_nil)
        (pss_cons (ps_if (pt_cmpR op_ne (pe_callB (call_lenK K) (by rfl) Z.len PySem.boot_len (pa_cons (pv 0) pa_nil)) (pe_callB (call_lenK K) (by rfl) Z.len PySem.boot_len (pa_cons (pv 1) pa_nil)) (nomark _))
          (pss_one (ps_ret pe_bl)) pss_nil)
        (pss_cons (ps_for PassesOwn.never rfl (pi_range1 rfl Z.range (pa_cons (pe_callB (call_lenK K) (by rfl) Z.len PySem.boot_len (pa_cons (pv 1) pa_nil)) pa_nil)) (pg_name (i := 2) sc__law_alike.nd rfl (Or.inl rfl))
          (pss_one (ps_if (pt_not (pt_val (pe_callD D__law_alike (hr.mono (by first | exact Nat.le_refl _ | omega | decide)) rfl pass0 (pa_cons (pe_ix (ix_seqK K) (pv 0) (pv 2) (fun _ _ => rfl)) (pa_cons (pe_ix (ix_seqK K) (pv 1) (pv 2) (fun _ _ => rfl)) pa_nil)))))
          (pss_one (ps_ret pe_bl)) pss_nil)))
        (pss_one (ps_ret pe_bl)))))))))), ?_⟩
  walk_at "go"
  refine ⟨rfl, ?_⟩
  walk_at "go"
  cases al with
  | non =>
    cases hg
    cases he
    refine XS.x_yes rfl ?_
    walk_at "go"
    exact ⟨rfl, q⟩
  | tru =>
    cases hg
    cases he
    refine XS.x_no rfl ?_
    walk_at "go"
    refine XS.x_is_yes ?_
    walk_at "go"
    exact XS.x_is_yes q
  | str x =>
    cases hg
    cases he
    refine XS.x_no rfl ?_
    walk_at "go"
    refine XS.x_is_no (by simp) ?_
    walk_at "go"
    refine XS.x_isi (.base (.str x)) XS.k_str_str ?_
    walk_at "go"
    refine XS.x_isi (.base (.str x)) XS.k_str_str ?_
    walk_at "go"
    rw [decide_eq_true rfl]
    exact q
  | int i =>
    cases hg
    cases he
    refine XS.x_no rfl ?_
    walk_at "go"
    refine XS.x_is_no (by simp) ?_
    walk_at "go"
    refine XS.x_isi (.base (.int i)) XS.k_int_str ?_
    walk_at "go"
    refine XS.x_isi (.base (.int i)) XS.k_int_int ?_
    walk_at "go"
    refine ⟨i, rfl, ?_⟩
    walk_at "go"
    rw [decide_eq_true rfl]
    exact q
  | tup hd hl =>
    cases hg with
    | tup hs ha =>
    cases he with
    | tup hs' ha' =>
    rename_i ds pg gs pe es
    have l1 := ha.len
    have l2 := ha'.len
    refine XS.x_no rfl ?_
    walk_at "go"
    refine XS.x_is_no (by simp) ?_
    walk_at "go"
    refine XS.x_isi (XS.tyx_T hs') XS.k_tup_str ?_
    walk_at "go"
    refine XS.x_isi (XS.tyx_T hs') XS.k_tup_int ?_
    walk_at "go"
    refine XS.x_isi (XS.tyx_T hs') XS.k_tup_tup ?_
    walk_at "go"
    refine XS.x_isi (XS.tyx_T hs) XS.k_tup_tup ?_
    walk_at "go"
    refine XS.x_isi (XS.tyx_T hs') XS.k_tup_lst ?_
    walk_at "go"
    refine XS.x_lenT hs ?_
    walk_at "go"
    refine XS.x_lenT hs' ?_
    walk_at "go"
    rw [show (gs.length : Int) = es.length by omega]
    refine XS.x_no (by simp) ?_
    walk_at "go"
    refine XS.x_lenT hs' ?_
    walk_at "go"
    refine XS.x_forR1 (by omega) (fun i σ H' => ∃ y : Option V, σ = [some (.ref pg), some (.ref pe), y] ∧ H' = H) ⟨none, rfl, rfl⟩ ?_ ?_
    · rintro i σ H' hi ⟨y, rfl, rfl⟩
      have hi' : i < ds.length := by omega
      obtain ⟨d, hdi⟩ : ∃ d, ds[i]? = some d := ⟨ds[i], List.getElem?_eq_getElem hi'⟩
      obtain ⟨u, hu1, hu2⟩ := ha.get hdi
      obtain ⟨u', hu1', hu2'⟩ := ha'.get hdi
      walk_at "go"
      refine .inr (.inl (XS.x_ixT hs (XS.atI_get hu1) ?_))
      walk_at "go"
      refine .inr (.inl (XS.x_ixT hs' (XS.atI_get hu1') ?_))
      walk_at "go"
      refine ⟨u, u', d, _, rfl, rfl, hu2, hu2', hd d (List.mem_of_getElem? hdi), ?_⟩
      walk_at "go"
      exact ⟨_, rfl, rfl⟩
    · rintro σ H' ⟨y, rfl, rfl⟩
      walk_at "go"
      exact q
  | lst hd hl =>
    cases hg with
    | lst hs ha =>
    cases he with
    | lst hs' ha' =>
    rename_i ds pg gs pe es
    have l1 := ha.len
    have l2 := ha'.len
    refine XS.x_no rfl ?_
    walk_at "go"
    refine XS.x_is_no (by simp) ?_
    walk_at "go"
    refine XS.x_isi (XS.tyx_L hs') XS.k_lst_str ?_
    walk_at "go"
    refine XS.x_isi (XS.tyx_L hs') XS.k_lst_int ?_
    walk_at "go"
    refine XS.x_isi (XS.tyx_L hs') XS.k_lst_tup ?_
    walk_at "go"
    refine XS.x_isi (XS.tyx_L hs') XS.k_lst_lst ?_
    walk_at "go"
    refine XS.x_isi (XS.tyx_L hs) XS.k_lst_lst ?_
    walk_at "go"
    refine XS.x_lenL hs ?_
    walk_at "go"
    refine XS.x_lenL hs' ?_
    walk_at "go"
    rw [show (gs.length : Int) = es.length by omega]
    refine XS.x_no (by simp) ?_
    walk_at "go"
    refine XS.x_lenL hs' ?_
    walk_at "go"
    refine XS.x_forR1 (by omega) (fun i σ H' => ∃ y : Option V, σ = [some (.ref pg), some (.ref pe), y] ∧ H' = H) ⟨none, rfl, rfl⟩ ?_ ?_
    · rintro i σ H' hi ⟨y, rfl, rfl⟩
      have hi' : i < ds.length := by omega
      obtain ⟨d, hdi⟩ : ∃ d, ds[i]? = some d := ⟨ds[i], List.getElem?_eq_getElem hi'⟩
      obtain ⟨u, hu1, hu2⟩ := ha.get hdi
      obtain ⟨u', hu1', hu2'⟩ := ha'.get hdi
      walk_at "go"
      refine .inl (XS.x_ixL hs (XS.atI_get hu1) ?_)
      walk_at "go"
      refine .inl (XS.x_ixL hs' (XS.atI_get hu1') ?_)
      walk_at "go"
      refine ⟨u, u', d, _, rfl, rfl, hu2, hu2', hd d (List.mem_of_getElem? hdi), ?_⟩
      walk_at "go"
      exact ⟨_, rfl, rfl⟩
    · rintro σ H' ⟨y, rfl, rfl⟩
      walk_at "go"
      exact q
theorem alike_all (F : FunAt K mg "_law_alike" s__law_alike P__law_alike) (Z : Bl mg) (D : DefAt P w K mg base CX0 1 "_law_whole" P__law_whole sp_whole) : ∀ n, DefAt P w K mg base CX0 (n + 1) "_law_alike" P__law_alike (sp_alike n K)
  | 0 => F.never fun vs H Q E h => by
    obtain ⟨_, _, _, k, _, hk, _⟩ := h
    omega
  | n + 1 => alike_step F Z D (alike_all F Z D n)

abbrev s_share : Stmt := topS 9
abbrev N_share : List Str := ["one", "name", "unknown", "many"]
abbrev P_share : List Str := ["one", "name"]
theorem sc_share : FnScope N_share P_share (defScope s_share) := ⟨rfl, rfl, rfl, by decide +kernel, rfl, by decide +kernel, by decide +kernel⟩
theorem d_share (F : FunAt K mg "share" s_share P_share) (Z : Bl mg) : DefAt P w K mg base CX0 1 "share" P_share (sp_share K) := by
  refine F.ok sc_share (fun vs H Q E h => ?_) (fun f cdv A outer s H vs Q E hr h => ?_)
  · obtain ⟨_, _, _, rfl, _⟩ := h
    rfl
  obtain ⟨v, sm, x, rfl, hd, nd, q⟩ := h
  obtain ⟨a, b, us, rfl, h1, h2, h3⟩ := hd.sum
  have hl := h3.len
  rw [List.length_map] at hl
  refine ⟨_, (pss_cons (ps_for PassesOwn.never rfl (pi_tupK K (pe_ix (ix_tupK K) (pv 0) pe_int (fun _ _ => rfl))) (pg_tupK (n := 2) K rfl (pgs_cons (pg_name (i := 2) sc_share.nd rfl (Or.inl rfl)) (pgs_cons (pg_name (i := 3) sc_share.nd rfl (Or.inl rfl)) pgs_nil)))
          (pss_one (ps_if (pt_cmpR op_eq (pv 2) (pv 1) (nomark _))
          (pss_one (ps_ret (pv 3))) pss_nil)))
        (pss_one (ps_ret pe_int))), ?_⟩
  walk_at "go"
  refine XS.x_ixT h1 (XS.atI_get (i := 1) rfl) ?_
  walk_at "go"
  refine XS.x_forT h2 (fun i σ H' => ∃ y2 y3 : Option V, σ = [some (.ref a), some (.str x), y2, y3] ∧ H' = H ∧ x ∉ (sm.2.take i).map (·.1)) ⟨none, none, rfl, rfl, by simp⟩ (fun i σ H' _ ⟨_, _, _, e, _⟩ => by rw [e]; exact h2) ?_ ?_
  · rintro i u σ H' hi ⟨y2, y3, rfl, rfl, hn⟩
    obtain ⟨d, hd1, hd2⟩ := h3.getV hi
    obtain ⟨p, hp, rfl⟩ := XS.map_at hd1
    obtain ⟨c, rfl, hc⟩ := hd2.pair
    refine XS.x_gtup hc rfl ?_
    walk_at "go"
    refine XS.x_d (fun e => ?_) (fun e => ?_)
    · walk_at "go"
      have := XS.shr_at nd (List.mem_of_getElem? hp)
      rw [e] at this
      rw [this] at q
      exact q
    · walk_at "go"
      refine ⟨_, _, rfl, rfl, ?_⟩
      rw [XS.take_more hp, List.map_append, List.mem_append]
      rintro (h | h)
      · exact hn h
      · simp at h
        exact e h.symm
  · rintro σ H' ⟨y2, y3, rfl, rfl, hn⟩
    walk_at "go"
    rw [hl, List.take_length] at hn
    rw [XS.shr_out hn] at q
    exact q

abbrev s_made : Stmt := topS 6
abbrev N_made : List Str := ["number", "pairs", "shares", "name", "many", "parts"]
abbrev P_made : List Str := ["number", "pairs"]
theorem sc_made : FnScope N_made P_made (defScope s_made) := ⟨rfl, rfl, rfl, by decide +kernel, rfl, by decide +kernel, by decide +kernel⟩
theorem d_made (F : FunAt K mg "made" s_made P_made) (Z : Bl mg) : DefAt P w K mg base CX0 1 "made" P_made (sp_made K) := by
  refine F.ok sc_made (fun vs H Q E h => ?_) (fun f cdv A outer s H vs Q E hr h => ?_)
  · obtain ⟨_, _, _, rfl, _⟩ := h
    rfl
  obtain ⟨n, v, ps, rfl, hd, h64, q⟩ := h
  have hu := hu_of hr
  cases hd with
  | lst hs ha =>
  rename_i a us
  have hl := ha.len
  rw [List.length_map] at hl
  refine ⟨_, (pss_cons (ps_set (i := 2) sc_made.nd rfl (Or.inr rfl) pe_dnewK)
        (pss_cons (ps_for PassesOwn.never rfl (pi_listK K (pv 1)) (pg_tupK (n := 2) K rfl (pgs_cons (pg_name (i := 3) sc_made.nd rfl (Or.inl rfl)) (pgs_cons (pg_name (i := 4) sc_made.nd rfl (Or.inl rfl)) pgs_nil)))
          (pss_one (ps_dput hu (pv 2) (pv 3) (pe_op op_add (pe_dget2 hu (pv 2) (pv 3) pe_int ⟨by rfl, by rfl, by rfl, by rfl⟩) (pv 4)) rfl)))
        (pss_cons (ps_setLc (i := 5) (own := [("name", 3)]) (by rfl) sc_made.nd rfl rfl (sw_true rfl rfl rfl (by decide +kernel)) (pi_listK K (pe_callB (call_sortedD rfl) (by rfl) Z.sorted (by decide +kernel) (pa_cons (pv 2) pa_nil))) (blkOk_by (own := [("name", 3)]) (N := N_made) (sc := defScope s_made) (by decide +kernel)) (fun _ _ _ _ _ => (pg_name (i := 3) sc_made.nd rfl (Or.inl rfl))) (fun _ _ _ _ _ => (pts_one (pt_cmpR op_ne (pe_dget hu (pv 2) (pv 3) (fun _ _ => rfl)) pe_int (nomark _)))) (fun _ _ _ _ _ => (pe_tup (pa_cons (pv 3) (pa_cons (pe_dget hu (pv 2) (pv 3) (fun _ _ => rfl)) pa_nil)))))
        (pss_one (ps_ret (pe_tup (pa_cons (pv 0) (pa_cons (pe_callTy (call_tupK K) (by rfl) Z.tuple (by decide +kernel) (pa_cons (pv 5) pa_nil)) pa_nil)))))))), ?_⟩
  walk_at "go"
  intro d hd0
  have e0 : Same H (upd H d (.dK [])) := XS.same_upd hd0
  walk_at "go"
  refine XS.x_forL (e0.seq hs) (fun i σ H' => ∃ (y3 y4 : Option V) (m : List Pr), σ = [some (.int n), some (.ref a), some (.ref d), y3, y4, none] ∧ Same H H' ∧ H' d = some (.dK (dOf m)) ∧ Shares (ps.take i) m) ⟨none, none, [], rfl, e0, upd_same, Shares.nil⟩ (fun i σ H' _ ⟨_, _, _, _, e, _⟩ => e.seq hs) ?_ ?_
  · rintro i u σ H' hi ⟨y3, y4, m, rfl, e1, hd1, S⟩
    obtain ⟨dp, hd2, hd3⟩ := ha.getV hi
    obtain ⟨p, hp, rfl⟩ := XS.map_at hd2
    obtain ⟨c, rfl, hc⟩ := hd3.pair
    refine XS.x_gtup (e1.seqT hc) rfl ?_
    walk_at "go"
    have hm : m.length < 64 := by
      have h1 := S.len
      rw [List.length_take] at h1
      omega
    have hval : ((getP m p.1).map V.int).getD (.int 0) = .int ((getP m p.1).getD 0) := by
      cases getP m p.1 <;> rfl
    refine ⟨d, rfl, .inl ⟨_, .inl hd1⟩, ?_⟩
    walk_at "go"
    refine ⟨_, DGet.k (k := Sum.inr p.1) hd1, ?_⟩
    rw [dOf_val, hval]
    walk_at "go"
    refine ⟨d, _, rfl, DPut.k (k := Sum.inr p.1) hd1 (szl (by rw [dOf_len]; omega)), ?_⟩
    rw [dOf_put]
    refine ⟨_, _, _, rfl, XS.same_mut e1 hd0, upd_same, ?_⟩
    rw [XS.take_more hp]
    exact S.more
  · rintro σ H' ⟨y3, y4, m, rfl, e1, hd1, S⟩
    rw [hl, List.take_length] at S
    walk_at "go"
    refine ⟨d, dOf m, m.map (·.1), rfl, .inl hd1, dOf_keys m, by rw [List.length_map]; have := S.len; omega, fun ys l hp hsort hl0 => ?_⟩
    have e2 : Same H' (upd H' l (.lst (ys.map V.str))) := XS.same_upd hl0
    have hys : ys.length = m.length := by rw [hp.length_eq, List.length_map]
    have hml := S.len
    refine XS.x_lcL ys V.str (fun x => decide (shr ps x ≠ 0)) (fun x => prT (x, shr ps x)) (SqL.of upd_same) (by omega) (fun _ => im_pair _) (fun z hz H2 Yes No e3 yes no => ?_) (fun Dl H2 acc hDl e3 hacc had => ?_)
    · have hd2 : H2 d = some (.dK (dOf m)) := e3 _ _ (e2 _ _ hd1)
      have hmem : z ∈ m.map (·.1) := hp.mem_iff.mp hz
      have hval : getP m z = some (shr ps z) := by
        have h1 := S.val z
        have h2 := getP_some (m := m) (x := z)
        rw [decide_eq_true hmem] at h2
        cases q1 : getP m z with
        | none => rw [q1] at h2; cases h2
        | some k => rw [q1] at h1; rw [← h1]; rfl
      have hget : DGet H2 d (kV (Sum.inr z)) (some (.int (shr ps z))) := by
        have := DGet.k (k := Sum.inr z) hd2
        rw [dOf_val, hval] at this
        exact this
      walk_at "go"
      refine ⟨rfl, ?_⟩
      walk_at "go"
      refine ⟨d, _, rfl, hget, ?_⟩
      walk_at "go"
      refine XS.x_dn (fun c => ?_) (fun c => ?_)
      · walk_at "go"
        refine ⟨d, _, rfl, hget, ?_⟩
        walk_at "go"
        refine XS.x_newT (XS.sz (by simp)) fun t H3 ht e4 h3 => ?_
        exact yes _ _ e4 (by simpa using c) (Dp.mkPair (p := (z, shr ps z)) (SqT.of h3))
      · walk_at "go"
        exact no _ (Same.refl _) (by simpa using c)
    · walk_at "go"
      refine XS.x_tupL (SqL.of hacc) fun t H3 ht e4 h3 => ?_
      walk_at "go"
      refine XS.x_newT (XS.sz (by simp)) fun t2 H4 ht2 e5 h4 => ?_
      walk_at "go"
      obtain ⟨k1, k2, k3⟩ := S.keptOf hp hsort
      have e6 := (((e1.trans e2).trans e3).trans e4).trans e5
      have had' : DpAll K H2 acc ((kept ys (shr ps)).map prT) := by
        unfold kept
        rw [List.map_map]
        exact had
      exact q t2 H4 (kept ys (shr ps)) e6 k1 k2 k3 (Dp.mkSum (s := (n, kept ys (shr ps))) (SqT.of h4) (SqT.of (e5 _ _ h3)) (DpAll.same (e4.trans e5) _ _ had'))

abbrev s__law_names_by : Stmt := topS 16
abbrev N__law_names_by : List Str := ["_law_cell", "_law_letters", "_law_size", "_law_word", "_law_number", "_law_k", "_law_spot", "_law_usual"]
abbrev P__law_names_by : List Str := ["_law_cell"]
theorem sc__law_names_by : FnScope N__law_names_by P__law_names_by (defScope s__law_names_by) := ⟨rfl, rfl, rfl, by decide +kernel, rfl, by decide +kernel, by decide +kernel⟩
theorem d__law_names_by (F : FunAt K mg "_law_names_by" s__law_names_by P__law_names_by) (Z : Bl mg) : DefAt P w K mg base CX0 1 "_law_names_by" P__law_names_by sp_names_by := by
  refine F.ok sc__law_names_by (fun vs H Q E h => ?_) (fun f cdv A outer s H vs Q E hr h => ?_)
  · obtain ⟨_, rfl, _⟩ := h
    rfl
  obtain ⟨c, rfl, q⟩ := h
  have hz := sizeBy_b c
  have hs := spotBy_b c
  have hl := wordBy_len c
  have hw := wordBy_ok c
  have end_ : ∀ (H2 : Hp), Same H H2 → ∀ Dl H' acc, H2 Dl = none → Same H2 H' → H' Dl = some (.lst acc) → DpAll K H' acc (((List.range (4 : Int).toNat).filter (fun _ => true)).map fun k => PyData.str (nameBy c k)) → Q (.ref Dl) H' := fun H2 e2 Dl H' acc h0 e h1 had => by
    have e3 : (((List.range (4 : Int).toNat).filter (fun _ => true)).map fun k => PyData.str (nameBy c k)) = (namesBy c).map PyData.str := rfl
    rw [e3] at had
    rw [had.strs] at h1
    exact q Dl H' (e2.free h0) (e2.trans e) h1
  refine ⟨_, (pss_cons (ps_set (i := 1) sc__law_names_by.nd rfl (Or.inr rfl) pe_str)
        (pss_cons (ps_set (i := 2) sc__law_names_by.nd rfl (Or.inl rfl) (pe_op op_add pe_int (pe_op op_mod (pv 0) pe_int)))
        (pss_cons (ps_set (i := 3) sc__law_names_by.nd rfl (Or.inr rfl) pe_str)
        (pss_cons (ps_set (i := 4) sc__law_names_by.nd rfl (Or.inl rfl) (pv 0))
        (pss_cons (ps_for PassesOwn.never rfl (pi_range1 rfl Z.range (pa_cons (pv 2) pa_nil)) (pg_name (i := 5) sc__law_names_by.nd rfl (Or.inl rfl))
          (pss_cons (ps_set (i := 4) sc__law_names_by.nd rfl (Or.inl rfl) (pe_op op_mod (pe_op op_add (pe_op op_mul (pv 4) pe_int) pe_int) pe_int))
        (pss_one (ps_set (i := 3) sc__law_names_by.nd rfl (Or.inr rfl) (pe_op op_add_str (pv 3) (pe_ix ix_str (pv 1) (pe_op op_mod (pe_op op_fdiv (pv 4) pe_int) pe_int) (fun _ _ => rfl)))))))
        (pss_cons (ps_if (pt_cmpR op_eq (pe_op op_mod (pe_op op_fdiv (pv 0) pe_int) pe_int) pe_int (nomark _))
          (pss_one (ps_ret (pe_lc (own := [("_law_k", 5)]) (by rfl) sc__law_names_by.nd (pi_range1 rfl Z.range (pa_cons pe_int pa_nil)) (blkOk_by (own := [("_law_k", 5)]) (N := N__law_names_by) (sc := defScope s__law_names_by) (by decide +kernel)) (fun _ _ _ _ _ => (pg_name (i := 5) sc__law_names_by.nd rfl (Or.inl rfl))) (fun _ _ _ _ _ => pts_nil) (fun _ _ _ _ _ => (pe_op op_repS (pe_slice sl_str (pv 3) po_none (po_some pe_int)) (pe_op op_add pe_int (pe_op op_mod (pe_op op_add (pv 5) (pe_op op_fdiv (pv 0) pe_int)) pe_int))))))) pss_nil)
        (pss_cons (ps_if (pt_cmpR (op_inK K) (pe_op op_mod (pe_op op_fdiv (pv 0) pe_int) pe_int) (pe_lst (pa_cons pe_int (pa_cons pe_int (pa_cons pe_int pa_nil)))) (by rfl))
          (pss_cons (ps_set (i := 7) sc__law_names_by.nd rfl (Or.inr rfl) (pe_lst (pa_cons pe_str (pa_cons pe_str (pa_cons pe_str (pa_cons pe_str (pa_cons pe_str (pa_cons pe_str (pa_cons pe_str (pa_cons pe_str (pa_cons pe_str (pa_cons pe_str (pa_cons pe_str (pa_cons pe_str (pa_cons pe_str (pa_cons pe_str pa_nil))))))))))))))))
        (pss_cons (ps_set (i := 7) sc__law_names_by.nd rfl (Or.inr rfl) (pe_op op_cat (pv 7) (pe_lst (pa_cons pe_str (pa_cons pe_str (pa_cons pe_str (pa_cons pe_str (pa_cons pe_str (pa_cons pe_str (pa_cons pe_str (pa_cons pe_str (pa_cons pe_str (pa_cons pe_str (pa_cons pe_str pa_nil))))))))))))))
        (pss_one (ps_ret (pe_lc (own := [("_law_k", 5)]) (by rfl) sc__law_names_by.nd (pi_range1 rfl Z.range (pa_cons pe_int pa_nil)) (blkOk_by (own := [("_law_k", 5)]) (N := N__law_names_by) (sc := defScope s__law_names_by) (by decide +kernel)) (fun _ _ _ _ _ => (pg_name (i := 5) sc__law_names_by.nd rfl (Or.inl rfl))) (fun _ _ _ _ _ => pts_nil) (fun _ _ _ _ _ => (pe_ix (ix_listK K) (pv 7) (pe_op op_mod (pe_op op_add (pe_op op_fdiv (pv 0) pe_int) (pe_ix (ix_listK K) (pe_lst (pa_cons pe_int (pa_cons pe_int (pa_cons pe_int (pa_cons pe_int pa_nil))))) (pv 5) (fun _ _ => rfl))) pe_int) (fun _ _ => rfl)))))))) pss_nil)
        (pss_cons (ps_set (i := 6) sc__law_names_by.nd rfl (Or.inr rfl) (pe_op op_modN (pe_op op_fdiv (pv 0) pe_int) (pv 2)))
        (pss_one (ps_ret (pe_lc (own := [("_law_k", 5)]) (by rfl) sc__law_names_by.nd (pi_range1 rfl Z.range (pa_cons pe_int pa_nil)) (blkOk_by (own := [("_law_k", 5)]) (N := N__law_names_by) (sc := defScope s__law_names_by) (by decide +kernel)) (fun _ _ _ _ _ => (pg_name (i := 5) sc__law_names_by.nd rfl (Or.inl rfl))) (fun _ _ _ _ _ => pts_nil) (fun _ _ _ _ _ => (pe_op op_add_str (pe_op op_add_str (pe_slice sl_str (pv 3) po_none (po_some (pv 6))) (pe_ix ix_str (pv 1) (pe_op op_mod (pe_op op_add (pe_op op_fdiv (pv 0) pe_int) (pe_op op_mul pe_int (pv 5))) pe_int) (fun _ _ => rfl))) (pe_slice sl_str (pv 3) (po_some (pe_op op_add (pv 6) pe_int)) po_none)))))))))))))), ?_⟩
  walk_at "go"
  refine XS.x_forR1 (by omega) (fun i σ H' => ∃ y5 : Option V, σ = [some (.int c), some (.str abc), some (.int (1 + c % 8)), some (.str (tx (wordRun c i).1)), some (.int (wordRun c i).2), y5, none, none] ∧ H' = H) ⟨none, rfl, rfl⟩ ?_ ?_
  · rintro i σ H' hi ⟨y5, rfl, rfl⟩
    walk_at "go"
    refine XS.x_ixS (by rw [abc_len]; exact XS.sz (by decide)) (abc_at _) ?_
    walk_at "go"
    refine ⟨_, _, rfl, rfl, ?_, ?_⟩
    · show (tx _).length + 1 ≤ sizeLine
      rw [tx_len, wordRun_len]
      exact XS.sz (by omega)
    · walk_at "go"
      refine ⟨some (.int i), ?_, rfl⟩
      show [_, _, _, some (V.str (tx (wordRun c i).1 ++ tx [lc (mixN (wordRun c i).2 / 7)])), _, _, _, _] = _
      rw [tx_app]
      rfl
  · rintro σ H' ⟨y5, rfl, rfl⟩
    have e0 : (wordRun c (1 + c % 8).toNat).1 = wordBy c := rfl
    rw [e0]
    have hsz : (tx (wordBy c)).length ≤ sizeLine := by rw [tx_len]; exact XS.sz (by omega)
    walk_at "go"
    refine XS.x_d (fun h1 => ?_) (fun h1 => ?_)
    · walk_at "go"
      refine XS.x_lcR1 (fun _ => true) (fun k => PyData.str (nameBy c k)) ⟨by decide, by decide⟩ (fun _ => .str _) (fun z hz H' Yes No e yes no => ?_) (end_ _ (Same.refl _))
      walk_at "go"
      refine ⟨rfl, ?_⟩
      walk_at "go"
      refine ⟨_, rfl, hsz, ?_⟩
      walk_at "go"
      have h2 : 0 ≤ (z + c / 24) % 8 := Int.emod_nonneg _ (by decide)
      have h3 : (z + c / 24) % 8 < 8 := Int.emod_lt_of_pos _ (by decide)
      refine ⟨_, _, rfl, rfl, by omega, by omega, Nat.le_trans (cutS_length _ _ _) (by rw [tx_len]; omega), ?_⟩
      have e1 : repS (cutS (tx (wordBy c)) none (some 1)) (1 + (z + c / 24) % 8).toNat = nameBy c z := by
        unfold nameBy
        rw [if_pos h1]
        have := tx_cut0 (wordBy c) 1
        rw [show ((1 : Nat) : Int) = 1 from rfl] at this
        rw [this, tx_rep]
      refine yes _ _ (Same.refl _) rfl ?_
      rw [e1]
      exact .str _
    · walk_at "go"
      refine ⟨XS.sz (by simp), fun p1 hp1 => ?_⟩
      obtain ⟨e1, h3⟩ := XS.newly (o := HO.lst _) hp1
      generalize hH1 : upd _ p1 _ = H1 at e1 h3 ⊢
      walk_at "go"
      refine ⟨p1, _, rfl, .inl (SqL.of h3), rfl, rfl, ?_⟩
      walk_at "go"
      have hin : (if false = true then !inV (V.int (c / 8 % 9)) [V.int 1, V.int 4, V.int 7] else inV (V.int (c / 8 % 9)) [V.int 1, V.int 4, V.int 7]) = decide (c / 8 % 9 = 1 ∨ c / 8 % 9 = 4 ∨ c / 8 % 9 = 7) := by
        rw [if_neg Bool.false_ne_true, Bool.eq_iff_iff]
        simp [inV, eqV]
        omega
      rw [hin]
      refine XS.x_d (fun h2 => ?_) (fun h2 => ?_)
      · walk_at "go"
        refine ⟨XS.sz (by simp), fun p2 hp2 => ?_⟩
        obtain ⟨e2, h4⟩ := XS.newly (o := HO.lst _) hp2
        generalize hH2 : upd _ p2 _ = H2 at e2 h4 ⊢
        walk_at "go"
        refine ⟨XS.sz (by simp), fun p3 hp3 => ?_⟩
        obtain ⟨e3, h5⟩ := XS.newly (o := HO.lst _) hp3
        generalize hH3 : upd _ p3 _ = H3 at e3 h5 ⊢
        walk_at "go"
        refine ⟨p2, p3, _, _, rfl, rfl, e3 _ _ h4, h5, XS.sz (by show 14 + 11 ≤ 100000; decide), fun p4 hp4 => ?_⟩
        have e4 := XS.same_upd (o := .lst (usual.map V.str)) hp4
        walk_at "go"
        refine XS.x_lcR1 (fun _ => true) (fun k => PyData.str (nameBy c k)) ⟨by decide, by decide⟩ (fun _ => .str _) (fun z hz H' Yes No e yes no => ?_) (end_ _ (((e1.trans e2).trans e3).trans e4))
        walk_at "go"
        refine ⟨rfl, ?_⟩
        walk_at "go"
        refine ⟨XS.sz (by simp), fun p5 hp5 => ?_⟩
        obtain ⟨e5, h7⟩ := XS.newly (o := HO.lst _) hp5
        generalize hH5 : upd _ p5 _ = H5 at e5 h7 ⊢
        walk_at "go"
        have hoff : atI [V.int 0, V.int 7, V.int 12, V.int 18] (z : Int) = some (.int (offs z)) := by
          have hz' : z = 0 ∨ z = 1 ∨ z = 2 ∨ z = 3 := by omega
          rcases hz' with rfl | rfl | rfl | rfl <;> exact atI_nat rfl
        refine XS.x_ixL (SqL.of h7) hoff ?_
        walk_at "go"
        have hu := usualAt c z
        have h8 : 0 ≤ (c / 72 + offs z) % 25 := Int.emod_nonneg _ (by decide)
        obtain ⟨j, hj⟩ := Int.eq_ofNat_of_zero_le h8
        have hus : atI (usual.map V.str) ((c / 72 + offs z) % 25) = some (.str (nameBy c z)) := by
          unfold nameBy
          rw [if_neg h1, if_pos h2, hj]
          rw [hj] at hu
          refine atI_nat ?_
          have hu' : j < usual.length := hu
          rw [List.getElem?_map, List.getD_eq_getElem?_getD]
          show (usual[j]?).map V.str = some (.str ((usual[j]?).getD ""))
          rw [List.getElem?_eq_getElem hu']
          rfl
        refine XS.x_ixL (SqL.of (e5 _ _ (e _ _ upd_same))) hus ?_
        exact yes _ _ e5 rfl (.str _)
      · walk_at "go"
        have hmod : (c / 24).fmod (1 + c % 8) = spotBy c := by rw [Int.fmod_eq_emod_of_nonneg _ (by omega)]; exact hs.2.symm
        refine XS.x_I (by omega) ?_
        rw [hmod]
        walk_at "go"
        refine XS.x_lcR1 (fun _ => true) (fun k => PyData.str (nameBy c k)) ⟨by decide, by decide⟩ (fun _ => .str _) (fun z hz H' Yes No e yes no => ?_) (end_ _ e1)
        walk_at "go"
        refine ⟨rfl, ?_⟩
        walk_at "go"
        refine ⟨_, rfl, hsz, ?_⟩
        rw [tx_cut0]
        walk_at "go"
        refine XS.x_ixS (by rw [abc_len]; exact XS.sz (by decide)) (abc_at _) ?_
        walk_at "go"
        have hcut : ((wordBy c).take (spotBy c)).length ≤ 8 := by rw [List.length_take]; omega
        refine ⟨_, _, rfl, rfl, ?_, ?_⟩
        · show (tx _).length + 1 ≤ sizeLine
          rw [tx_len]
          exact XS.sz (by omega)
        walk_at "go"
        refine ⟨_, rfl, hsz, ?_⟩
        have e7 : (spotBy c : Int) + 1 = ((spotBy c + 1 : Nat) : Int) := rfl
        rw [e7, tx_cut1]
        walk_at "go"
        have e9 : tx ((wordBy c).take (spotBy c)) ++ (⟨#[lc (c / 192 + 7 * z)]⟩ : Str) = tx ((wordBy c).take (spotBy c) ++ [lc (c / 192 + 7 * z)]) := tx_app _ [_]
        rw [e9]
        refine ⟨_, _, rfl, rfl, ?_, ?_⟩
        · rw [tx_len, tx_len, List.length_append, List.length_drop]
          exact XS.sz (by simp; omega)
        rw [tx_app]
        refine yes _ _ (Same.refl _) rfl ?_
        have e10 : nameBy c z = tx ((wordBy c).take (spotBy c) ++ [lc (c / 192 + 7 * z)] ++ (wordBy c).drop (spotBy c + 1)) := by
          unfold nameBy
          rw [if_neg h1, if_neg h2]
        rw [e10]
        exact .str _

abbrev s_added : Stmt := topS 7
abbrev N_added : List Str := ["one", "other"]
abbrev P_added : List Str := ["one", "other"]
theorem sc_added : FnScope N_added P_added (defScope s_added) := ⟨rfl, rfl, rfl, by decide +kernel, rfl, by decide +kernel, by decide +kernel⟩
theorem d_added (F : FunAt K mg "added" s_added P_added) (Z : Bl mg) (D_made : DefAt P w K mg base CX0 1 "made" P_made (sp_mk K)) : DefAt P w K mg base CX0 2 "added" P_added (sp_added K) := by
  refine F.ok sc_added (fun vs H Q E h => ?_) (fun f cdv A outer s H vs Q E hr h => ?_)
  · obtain ⟨_, _, _, _, rfl, _⟩ := h
    rfl
  obtain ⟨v, u, s1, s2, rfl, h1, h2, hl, q⟩ := h
  obtain ⟨a, b, us, rfl, a1, a2, a3⟩ := h1.sum
  obtain ⟨c, d, ws, rfl, c1, c2, c3⟩ := h2.sum
  have l1 := a3.len
  have l2 := c3.len
  rw [List.length_map] at l1 l2
  refine ⟨_, (pss_one (ps_ret (pe_callD D_made (hr.mono (by first | exact Nat.le_refl _ | omega | decide)) rfl pass0 (pa_cons (pe_op op_add (pe_ix (ix_tupK K) (pv 0) pe_int (fun _ _ => rfl)) (pe_ix (ix_tupK K) (pv 1) pe_int (fun _ _ => rfl))) (pa_cons (pe_lst (pa_starK K (pe_ix (ix_tupK K) (pv 0) pe_int (fun _ _ => rfl)) (pa_starK K (pe_ix (ix_tupK K) (pv 1) pe_int (fun _ _ => rfl)) pa_nil))) pa_nil))))), ?_⟩
  walk_at "go"
  refine XS.x_ixT a1 (XS.atI_get (i := 0) rfl) ?_
  walk_at "go"
  refine XS.x_ixT c1 (XS.atI_get (i := 0) rfl) ?_
  walk_at "go"
  refine XS.x_ixT a1 (XS.atI_get (i := 1) rfl) ?_
  refine ⟨_, _, rfl, .inl a2, ?_⟩
  walk_at "go"
  refine XS.x_ixT c1 (XS.atI_get (i := 1) rfl) ?_
  refine ⟨_, _, rfl, .inl c2, ?_⟩
  walk_at "go"
  refine ⟨XS.sz (by simp; omega), fun t ht => ?_⟩
  obtain ⟨e1, h5⟩ := XS.newly (o := HO.lst _) ht
  generalize hH1 : upd _ t _ = H1 at e1 h5 ⊢
  walk_at "go"
  refine ⟨_, _, s1.2 ++ s2.2, rfl, .lst (SqL.of h5) ?_, by rw [List.length_append]; exact hl, fun t H' e d => ?_⟩
  · rw [List.map_append, List.append_nil]
    exact (DpAll.same e1 _ _ a3).app (DpAll.same e1 _ _ c3)
  · exact q t H' (e1.trans e) d
abbrev s_times : Stmt := topS 8
abbrev N_times : List Str := ["number", "one", "name", "many"]
abbrev P_times : List Str := ["number", "one"]
theorem sc_times : FnScope N_times P_times (defScope s_times) := ⟨rfl, rfl, rfl, by decide +kernel, rfl, by decide +kernel, by decide +kernel⟩
theorem d_times (F : FunAt K mg "times" s_times P_times) (Z : Bl mg) (D_made : DefAt P w K mg base CX0 1 "made" P_made (sp_mk K)) : DefAt P w K mg base CX0 2 "times" P_times (sp_times K) := by
  refine F.ok sc_times (fun vs H Q E h => ?_) (fun f cdv A outer s H vs Q E hr h => ?_)
  · obtain ⟨_, _, _, rfl, _⟩ := h
    rfl
  obtain ⟨c, v, s1, rfl, h1, hl, sc, ss, q⟩ := h
  obtain ⟨a, b, us, rfl, a1, a2, a3⟩ := h1.sum
  have l1 := a3.len
  rw [List.length_map] at l1
  refine ⟨_, (pss_one (ps_ret (pe_callD D_made (hr.mono (by first | exact Nat.le_refl _ | omega | decide)) rfl pass0 (pa_cons (pe_op op_mulW (pv 0) (pe_ix (ix_tupK K) (pv 1) pe_int (fun _ _ => rfl))) (pa_cons (pe_lc (own := [("name", 2), ("many", 3)]) (by rfl) sc_times.nd (pi_tupK K (pe_ix (ix_tupK K) (pv 1) pe_int (fun _ _ => rfl))) (blkOk_by (own := [("name", 2), ("many", 3)]) (N := N_times) (sc := defScope s_times) (by decide +kernel)) (fun _ _ _ _ _ => (pg_tupK (n := 2) K rfl (pgs_cons (pg_name (i := 2) sc_times.nd rfl (Or.inl rfl)) (pgs_cons (pg_name (i := 3) sc_times.nd rfl (Or.inl rfl)) pgs_nil)))) (fun _ _ _ _ _ => pts_nil) (fun _ _ _ _ _ => (pe_tup (pa_cons (pv 2) (pa_cons (pe_op op_mulW (pv 0) (pv 3)) pa_nil))))) pa_nil))))), ?_⟩
  walk_at "go"
  refine XS.x_ixT a1 (XS.atI_get (i := 0) rfl) ?_
  walk_at "go"
  refine XS.x_I (XS.mul_ok sc ss.1) ?_
  walk_at "go"
  refine XS.x_ixT a1 (XS.atI_get (i := 1) rfl) ?_
  refine XS.x_lcT s1.2 us (fun _ => true) (fun p => prT (p.1, c * p.2)) a2 l1 (by omega) (fun _ => im_pair _) (fun i p u hi hu H1 Yes No e yes no => ?_) (fun l H1 acc hl0 e1 hacc had => ?_)
  · obtain ⟨x, rfl, hx⟩ := (pair_at a3 hi hu).pair
    refine XS.x_gtup (e.seqT hx) rfl ?_
    walk_at "go"
    refine ⟨rfl, ?_⟩
    walk_at "go"
    refine XS.x_I (XS.mul_ok sc (ss.2 p (List.mem_of_getElem? hi))) ?_
    walk_at "go"
    refine ⟨XS.sz (by simp), fun t ht => ?_⟩
    obtain ⟨e1, h5⟩ := XS.newly (o := HO.tup _) ht
    generalize hH1 : upd _ t _ = H2 at e1 h5 ⊢
    exact yes _ _ e1 rfl (Dp.mkPair (p := (p.1, c * p.2)) (SqT.of h5))
  · walk_at "go"
    have e3 : (s1.2.filter fun _ => true).map (fun p => prT (p.1, c * p.2)) = (s1.2.map fun p => (p.1, c * p.2)).map prT := by
      rw [List.map_map, List.filter_eq_self.mpr (fun _ _ => rfl)]
      rfl
    rw [e3] at had
    refine ⟨_, _, s1.2.map fun p => (p.1, c * p.2), rfl, .lst (SqL.of hacc) had, by rw [List.length_map]; exact hl, fun t H' e d => ?_⟩
    exact q t H' (e1.trans e) d
abbrev s_without : Stmt := topS 10
abbrev N_without : List Str := ["one", "name", "unknown", "many"]
abbrev P_without : List Str := ["one", "name"]
theorem sc_without : FnScope N_without P_without (defScope s_without) := ⟨rfl, rfl, rfl, by decide +kernel, rfl, by decide +kernel, by decide +kernel⟩
theorem d_without (F : FunAt K mg "without" s_without P_without) (Z : Bl mg) (D_made : DefAt P w K mg base CX0 1 "made" P_made (sp_mk K)) : DefAt P w K mg base CX0 2 "without" P_without (sp_without K) := by
  refine F.ok sc_without (fun vs H Q E h => ?_) (fun f cdv A outer s H vs Q E hr h => ?_)
  · obtain ⟨_, _, _, rfl, _⟩ := h
    rfl
  obtain ⟨v, s1, x, rfl, h1, hl, q⟩ := h
  obtain ⟨a, b, us, rfl, a1, a2, a3⟩ := h1.sum
  have l1 := a3.len
  rw [List.length_map] at l1
  refine ⟨_, (pss_one (ps_ret (pe_callD D_made (hr.mono (by first | exact Nat.le_refl _ | omega | decide)) rfl pass0 (pa_cons (pe_ix (ix_tupK K) (pv 0) pe_int (fun _ _ => rfl)) (pa_cons (pe_lc (own := [("unknown", 2), ("many", 3)]) (by rfl) sc_without.nd (pi_tupK K (pe_ix (ix_tupK K) (pv 0) pe_int (fun _ _ => rfl))) (blkOk_by (own := [("unknown", 2), ("many", 3)]) (N := N_without) (sc := defScope s_without) (by decide +kernel)) (fun _ _ _ _ _ => (pg_tupK (n := 2) K rfl (pgs_cons (pg_name (i := 2) sc_without.nd rfl (Or.inl rfl)) (pgs_cons (pg_name (i := 3) sc_without.nd rfl (Or.inl rfl)) pgs_nil)))) (fun _ _ _ _ _ => (pts_one (pt_cmpR op_ne (pv 2) (pv 1) (nomark _)))) (fun _ _ _ _ _ => (pe_tup (pa_cons (pv 2) (pa_cons (pv 3) pa_nil))))) pa_nil))))), ?_⟩
  walk_at "go"
  refine XS.x_ixT a1 (XS.atI_get (i := 0) rfl) ?_
  walk_at "go"
  refine XS.x_ixT a1 (XS.atI_get (i := 1) rfl) ?_
  refine XS.x_lcT s1.2 us (fun p => decide (p.1 ≠ x)) prT a2 l1 (by omega) (fun _ => im_pair _) (fun i p u hi hu H1 Yes No e yes no => ?_) (fun l H1 acc hl0 e1 hacc had => ?_)
  · obtain ⟨y, rfl, hx⟩ := (pair_at a3 hi hu).pair
    refine XS.x_gtup (e.seqT hx) rfl ?_
    walk_at "go"
    refine ⟨rfl, ?_⟩
    walk_at "go"
    refine XS.x_dn (fun c => ?_) (fun c => ?_)
    · walk_at "go"
      refine ⟨XS.sz (by simp), fun t ht => ?_⟩
      obtain ⟨e1, h5⟩ := XS.newly (o := HO.tup _) ht
      generalize hH1 : upd _ t _ = H2 at e1 h5 ⊢
      exact yes _ _ e1 (by simpa using c) (Dp.mkPair (p := p) (SqT.of h5))
    · exact no _ (Same.refl _) (by simpa using c)
  · walk_at "go"
    refine ⟨_, _, s1.2.filter fun p => decide (p.1 ≠ x), rfl, .lst (SqL.of hacc) had, Nat.lt_of_le_of_lt (List.length_filter_le _ _) hl, fun t H' e d => ?_⟩
    exact q t H' (e1.trans e) d
abbrev s_put_in : Stmt := topS 11
abbrev N_put_in : List Str := ["one", "name", "other"]
abbrev P_put_in : List Str := ["one", "name", "other"]
theorem sc_put_in : FnScope N_put_in P_put_in (defScope s_put_in) := ⟨rfl, rfl, rfl, by decide +kernel, rfl, by decide +kernel, by decide +kernel⟩
theorem d_put_in (F : FunAt K mg "put_in" s_put_in P_put_in) (Z : Bl mg) (D_added : DefAt P w K mg base CX0 2 "added" P_added (sp_added K)) (D_times : DefAt P w K mg base CX0 2 "times" P_times (sp_times K))
    (D_without : DefAt P w K mg base CX0 2 "without" P_without (sp_without K)) (D_share : DefAt P w K mg base CX0 1 "share" P_share (sp_share K)) : DefAt P w K mg base CX0 3 "put_in" P_put_in (sp_put_in K) := by
  refine F.ok sc_put_in (fun vs H Q E h => ?_) (fun f cdv A outer s H vs Q E hr h => ?_)
  · obtain ⟨_, _, _, _, _, rfl, _⟩ := h
    rfl
  obtain ⟨v, u, s1, s2, x, rfl, h1, h2, nd, hl, ss, so, q⟩ := h
  refine ⟨_, (pss_one (ps_ret (pe_callD D_added (hr.mono (by first | exact Nat.le_refl _ | omega | decide)) rfl pass0 (pa_cons (pe_callD D_without (hr.mono (by first | exact Nat.le_refl _ | omega | decide)) rfl pass0 (pa_cons (pv 0) (pa_cons (pv 1) pa_nil))) (pa_cons (pe_callD D_times (hr.mono (by first | exact Nat.le_refl _ | omega | decide)) rfl pass0 (pa_cons (pe_callD D_share (hr.mono (by first | exact Nat.le_refl _ | omega | decide)) rfl pass0 (pa_cons (pv 0) (pa_cons (pv 1) pa_nil))) (pa_cons (pv 2) pa_nil))) pa_nil))))), ?_⟩
  walk_at "go"
  refine ⟨_, s1, x, rfl, h1, by omega, fun t H1 e1 d1 => ?_⟩
  walk_at "go"
  refine ⟨_, s1, x, rfl, h1.same e1, nd, ?_⟩
  walk_at "go"
  have hsm : Sml (shr s1.2 x) := by
    by_cases c : x ∈ s1.2.map (·.1)
    · obtain ⟨p, hp, rfl⟩ := List.mem_map.mp c
      rw [shr_at nd hp]
      exact ss.2 p hp
    · rw [shr_out c]
      exact sml_small (by decide)
  refine ⟨_, _, s2, rfl, h2.same e1, by omega, hsm, so, fun t2 H2 e2 d2 => ?_⟩
  walk_at "go"
  refine ⟨_, _, woS s1 x, timS (shr s1.2 x) s2, rfl, d1.same e2, d2, ?_, fun t3 H3 e3 d3 => ?_⟩
  · have l1 := nrm_len (s1.2.filter fun p => decide (p.1 ≠ x))
    have l2 := nrm_len (s2.2.map fun p => (p.1, shr s1.2 x * p.2))
    have l3 := List.length_filter_le (fun p : Pr => decide (p.1 ≠ x)) s1.2
    rw [List.length_map] at l2
    show (nrm _).length + (nrm _).length < 64
    omega
  · exact q t3 H3 (e1.trans (e2.trans e3)) d3

abbrev s_value : Stmt := topS 12
abbrev N_value : List Str := ["one", "values", "total", "name", "many"]
abbrev P_value : List Str := ["one", "values"]
theorem sc_value : FnScope N_value P_value (defScope s_value) := ⟨rfl, rfl, rfl, by decide +kernel, rfl, by decide +kernel, by decide +kernel⟩
theorem d_value {eS eV eP eN : Addr} (Y : Er K mg eS eV eP eN) (F : FunAt K mg "value" s_value P_value) (Z : Bl mg) : DefAt P w K mg base (L2.CX P w) 4 "value" P_value (sp_value K eV) := by
  refine F.okX sc_value (fun vs H Q E h => ?_) (fun f cdv A outer s H vs Q E hr h => ?_)
  · obtain ⟨_, _, _, _, rfl, _⟩ := h
    rfl
  obtain ⟨v, d, s1, m, rfl, h1, hd, ss, sm, hz, qok, qno⟩ := h
  have hu := hu_of hr
  obtain ⟨a, b, us, rfl, a1, a2, a3⟩ := h1.sum
  have l1 := a3.len
  rw [List.length_map] at l1
  refine ⟨_, (pss_cons (ps_set (i := 2) sc_value.nd rfl (Or.inl rfl) (pe_ix (ix_tupK K) (pv 0) pe_int (fun _ _ => rfl)))
        (pss_cons (ps_for (passes_of rfl) rfl (pi_tupK K (pe_ix (ix_tupK K) (pv 0) pe_int (fun _ _ => rfl))) (pg_tupK (n := 2) K rfl (pgs_cons (pg_name (i := 3) sc_value.nd rfl (Or.inl rfl)) (pgs_cons (pg_name (i := 4) sc_value.nd rfl (Or.inl rfl)) pgs_nil)))
          (pss_cons (ps_if (pt_cmp (pc_dnotin hu (pv 3) (pv 1)))
          (pss_one (ps_raise rfl (takes_of rfl rfl rfl rfl) (pmk_ownA PySem.F.excBase_ValueError Y.x_NoValue Y.g_NoValue Y.k_NoValue (raises_own Y.b_NoValue Y.t_NoValue) rfl (pa_cons (pe_joined (PJ.cons pe_str (PJ.cons (pe_fmt (pv 3)) PJ.nil))) pa_nil)))) pss_nil)
        (pss_one (ps_set (i := 2) sc_value.nd rfl (Or.inl rfl) (pe_op op_add (pv 2) (pe_op op_mulW (pv 4) (pe_dget hu (pv 1) (pv 3) (fun _ _ => rfl))))))))
        (pss_one (ps_ret (pv 2))))), ?_⟩
  walk_at "go"
  refine XS.x_ixT a1 (XS.atI_get (i := 0) rfl) ?_
  walk_at "go"
  refine XS.x_ixT a1 (XS.atI_get (i := 1) rfl) ?_
  refine XS.x_forT a2 (fun i σ H' => ∃ y3 y4 : Option V, σ = [some (.ref a), some (.ref d), some (.int (s1.1 + dot (look m) (s1.2.take i))), y3, y4] ∧ H' = H ∧ ∀ p ∈ s1.2.take i, p.1 ∈ m.map (·.1)) ⟨none, none, ?_, rfl, fun p hp => by simp at hp⟩ (fun i σ H' _ ⟨_, _, _, e, _⟩ => by rw [e]; exact a2) ?_ ?_
  · rw [List.take_zero, dot_nil, Int.add_zero]
    rfl
  · rintro i u σ H' hi ⟨y3, y4, rfl, rfl, hin⟩
    have hlt : i < s1.2.length := by rw [← l1]; exact (List.getElem?_eq_some_iff.mp hi).1
    have hp : s1.2[i]? = some s1.2[i] := List.getElem?_eq_getElem hlt
    generalize s1.2[i] = p at hp
    have hmem := List.mem_of_getElem? hp
    obtain ⟨c, rfl, hc⟩ := (pair_at a3 hp hi).pair
    refine XS.x_gtup hc rfl ?_
    walk_at "go"
    have g := DGet.k (k := Sum.inr p.1) hd
    rw [dOf_val] at g
    refine ⟨d, _, rfl, g, ?_⟩
    walk_at "go"
    rw [Option.isSome_map, getP_some]
    refine XS.x_dn (fun c => ?_) (fun c => ?_)
    · refine ⟨_, rfl, XS.sz ?_, _, rfl, .inl ⟨_, rfl, XS.sz (by have := hz p hmem; omega), _, rfl, ?_, ?_⟩⟩
      · exact Nat.le_of_lt (by decide)
      · have e1 : (Str.empty ++ ("no value is known for " : Str)).length = 22 := by decide +kernel
        show ((Str.empty ++ ("no value is known for " : Str)) ++ p.1).length ≤ sizeLine
        have e2 : ((Str.empty ++ ("no value is known for " : Str)) ++ p.1).length = (Str.empty ++ ("no value is known for " : Str)).length + p.1.length := by
          show ((Str.empty ++ ("no value is known for " : Str)).cps ++ p.1.cps).size = _
          rw [Array.size_append]
          rfl
        rw [e2, e1]
        exact XS.sz (by have := hz p hmem; omega)
      walk_at "go"
      exact ⟨XS.sz (by simp), qno ⟨p, hmem, c⟩⟩
    · walk_at "go"
      have hv : getP m p.1 = some (look m p.1) := by
        have h2 := getP_some (m := m) (x := p.1)
        rw [decide_eq_true c] at h2
        unfold look
        cases q1 : getP m p.1 with
        | none => rw [q1] at h2; cases h2
        | some k => rfl
      rw [hv] at g
      have hml : Sml (look m p.1) := by
        unfold getP at hv
        cases q1 : m.find? (fun q => decide (q.1 = p.1)) with
        | none => rw [q1] at hv; cases hv
        | some k =>
          rw [q1] at hv
          have hv' := Option.some.inj hv
          rw [← hv']
          exact sm k (List.mem_of_find?_eq_some q1)
      refine ⟨d, _, rfl, g, ?_⟩
      refine XS.x_I (XS.mul_ok (ss.2 p hmem) hml) ?_
      walk_at "go"
      refine ⟨some (.str p.1), some (.int p.2), ?_, rfl, ?_⟩
      · rw [XS.take_more hp, dot_app, dot_cons, dot_nil, Int.add_zero, ← Int.add_assoc]
        rfl
      · intro p' hp'
        rw [XS.take_more hp] at hp'
        rcases List.mem_append.mp hp' with h | h
        · exact hin p' h
        · simp at h
          subst h
          exact c
  · rintro σ H' ⟨y3, y4, rfl, rfl, hin⟩
    walk_at "go"
    rw [l1, List.take_length] at hin
    rw [l1, List.take_length]
    exact qok hin

abbrev s__law_word_of : Stmt := topS 21
abbrev N__law_word_of : List Str := ["_law_e", "_law_words"]
abbrev P__law_word_of : List Str := ["_law_e"]
theorem sc__law_word_of : FnScope N__law_word_of P__law_word_of (defScope s__law_word_of) := ⟨rfl, rfl, rfl, by decide +kernel, rfl, by decide +kernel, by decide +kernel⟩
theorem d__law_word_of {eS eV eP eN : Addr} (Y : Er K mg eS eV eP eN) (F : FunAt K mg "_law_word_of" s__law_word_of P__law_word_of) (Z : Bl mg) : DefP P w K mg base 1 "_law_word_of" P__law_word_of (sp_word_of eV eP eN) := by
  refine F.okP sc__law_word_of (fun a D vs H Q E h => ?_) (fun f cdv A outer s H vs Q p D hz hf hr h => ?_)
  · obtain ⟨rfl, _⟩ := h
    rfl
  obtain ⟨rfl, ek, rfl, q⟩ := h
  have C : ExcC K (ek.at eV eP eN) := by
    cases ek
    · exact Y.c_NoValue
    · exact Y.c_NotPlain
    · exact Y.c_NoNote
  refine ⟨_, (pss_cons (ps_set (i := 1) sc__law_word_of.nd rfl (Or.inl rfl) (pe_lst pa_nil))
        (pss_cons (ps_if (pt_val (pe_callB (call_isP (oe := p.2) List.mem_cons_self C hz hf) (by rfl) Z.isinstance (by decide +kernel) (pa_cons (pv 0) (pa_cons (pe_glob (v := .ref _) rfl Y.g_NoValue rfl) pa_nil))))
          (pss_one (ps_expr (pe_bm PySem.F.plainAttrs_list PySem.F.slot_list_append PySem.F.type_list_append mt_append (pv 1) (pa_cons pe_str pa_nil)))) pss_nil)
        (pss_cons (ps_if (pt_val (pe_callB (call_isP (oe := p.2) List.mem_cons_self C hz hf) (by rfl) Z.isinstance (by decide +kernel) (pa_cons (pv 0) (pa_cons (pe_glob (v := .ref _) rfl Y.g_NotPlain rfl) pa_nil))))
          (pss_one (ps_expr (pe_bm PySem.F.plainAttrs_list PySem.F.slot_list_append PySem.F.type_list_append mt_append (pv 1) (pa_cons pe_str pa_nil)))) pss_nil)
        (pss_cons (ps_if (pt_val (pe_callB (call_isP (oe := p.2) List.mem_cons_self C hz hf) (by rfl) Z.isinstance (by decide +kernel) (pa_cons (pv 0) (pa_cons (pe_glob (v := .ref _) rfl Y.g_NoNote rfl) pa_nil))))
          (pss_one (ps_expr (pe_bm PySem.F.plainAttrs_list PySem.F.slot_list_append PySem.F.type_list_append mt_append (pv 1) (pa_cons pe_str pa_nil)))) pss_nil)
        (pss_cons (ps_if (pt_not (pt_val (pe_callB (call_isP (oe := p.2) List.mem_cons_self C hz hf) (by rfl) Z.isinstance (by decide +kernel) (pa_cons (pv 0) (pa_cons (pe_bltn (v := .ty "ValueError") rfl Z.ValueError (by decide +kernel) rfl) pa_nil)))))
          (pss_one (ps_expr (pe_bm PySem.F.plainAttrs_list PySem.F.slot_list_append PySem.F.type_list_append mt_append (pv 1) (pa_cons pe_str pa_nil)))) pss_nil)
        (pss_one (ps_ret (pe_joinK K pe_str (pv 1))))))))), ?_⟩
  walk_at "go"
  refine ⟨XS.sz (by simp), fun l hl => ?_⟩
  obtain ⟨e1, h1⟩ := XS.newly (o := HO.lst _) hl
  generalize hH1 : upd _ l _ = H1 at e1 h1 ⊢
  walk_at "go"
  cases ek
  · refine XS.x_isE Y.i_VV ?_
    walk_at "go"
    refine XS.x_tyL' (XS.x_tyL h1) ?_
    walk_at "go"
    refine XS.x_app h1 (szl (by simp)) ?_
    walk_at "go"
    refine XS.x_isE Y.i_VP ?_
    walk_at "go"
    refine XS.x_isE Y.i_VN ?_
    walk_at "go"
    refine XS.x_isET Y.i_V ?_
    walk_at "go"
    refine ⟨⟨_, rfl⟩, ?_⟩
    walk_at "go"
    refine ⟨_, l, ["no value"], rfl, rfl, .inl (SqL.of upd_same), by decide +kernel, ?_⟩
    rw [show Txt.join ("" : Str) ["no value"] = "no value" by decide +kernel]
    exact q _ (XS.same_mut e1 hl)
  · refine XS.x_isE Y.i_PV ?_
    walk_at "go"
    refine XS.x_isE Y.i_PP ?_
    walk_at "go"
    refine XS.x_tyL' (XS.x_tyL h1) ?_
    walk_at "go"
    refine XS.x_app h1 (szl (by simp)) ?_
    walk_at "go"
    refine XS.x_isE Y.i_PN ?_
    walk_at "go"
    refine XS.x_isET Y.i_P ?_
    walk_at "go"
    refine ⟨⟨_, rfl⟩, ?_⟩
    walk_at "go"
    refine ⟨_, l, ["not plain"], rfl, rfl, .inl (SqL.of upd_same), by decide +kernel, ?_⟩
    rw [show Txt.join ("" : Str) ["not plain"] = "not plain" by decide +kernel]
    exact q _ (XS.same_mut e1 hl)
  · refine XS.x_isE Y.i_NV ?_
    walk_at "go"
    refine XS.x_isE Y.i_NP ?_
    walk_at "go"
    refine XS.x_isE Y.i_NN ?_
    walk_at "go"
    refine XS.x_tyL' (XS.x_tyL h1) ?_
    walk_at "go"
    refine XS.x_app h1 (szl (by simp)) ?_
    walk_at "go"
    refine XS.x_isET Y.i_N ?_
    walk_at "go"
    refine ⟨⟨_, rfl⟩, ?_⟩
    walk_at "go"
    refine ⟨_, l, ["no note"], rfl, rfl, .inl (SqL.of upd_same), by decide +kernel, ?_⟩
    rw [show Txt.join ("" : Str) ["no note"] = "no note" by decide +kernel]
    exact q _ (XS.same_mut e1 hl)

abbrev s__law_value : Stmt := topS 19
abbrev N__law_value : List Str := ["_law_one", "_law_values", "_law_total", "_law_pair"]
abbrev P__law_value : List Str := ["_law_one", "_law_values"]
theorem sc__law_value : FnScope N__law_value P__law_value (defScope s__law_value) := ⟨rfl, rfl, rfl, by decide +kernel, rfl, by decide +kernel, by decide +kernel⟩
theorem d__law_value (F : FunAt K mg "_law_value" s__law_value P__law_value) (Z : Bl mg) : DefAt P w K mg base CX0 1 "_law_value" P__law_value (sp_lvalue K) := by
  refine F.ok sc__law_value (fun vs H Q E h => ?_) (fun f cdv A outer s H vs Q E hr h => ?_)
  · obtain ⟨_, _, _, _, rfl, _⟩ := h
    rfl
  obtain ⟨v, d, s1, m, rfl, h1, hd, ss, sm, hin, q⟩ := h
  have hu := hu_of hr
  obtain ⟨a, b, us, rfl, a1, a2, a3⟩ := h1.sum
  have l1 := a3.len
  rw [List.length_map] at l1
  refine ⟨_, (pss_cons (ps_set (i := 2) sc__law_value.nd rfl (Or.inl rfl) (pe_ix (ix_tupK K) (pv 0) pe_int (fun _ _ => rfl)))
        (pss_cons (ps_for PassesOwn.never rfl (pi_tupK K (pe_ix (ix_tupK K) (pv 0) pe_int (fun _ _ => rfl))) (pg_name (i := 3) sc__law_value.nd rfl (Or.inl rfl))
          (pss_one (ps_set (i := 2) sc__law_value.nd rfl (Or.inl rfl) (pe_op op_add (pv 2) (pe_op op_mulW (pe_ix (ix_tupK K) (pv 3) pe_int (fun _ _ => rfl)) (pe_dget hu (pv 1) (pe_ix (ix_tupK K) (pv 3) pe_int (fun _ _ => rfl)) (fun _ _ => rfl)))))))
        (pss_one (ps_ret (pv 2))))), ?_⟩
  walk_at "go"
  refine XS.x_ixT a1 (XS.atI_get (i := 0) rfl) ?_
  walk_at "go"
  refine XS.x_ixT a1 (XS.atI_get (i := 1) rfl) ?_
  refine XS.x_forT a2 (fun i σ H' => ∃ y3 : Option V, σ = [some (.ref a), some (.ref d), some (.int (s1.1 + dot (look m) (s1.2.take i))), y3] ∧ H' = H) ⟨none, ?_, rfl⟩ (fun i σ H' _ ⟨_, _, e⟩ => by rw [e]; exact a2) ?_ ?_
  · rw [List.take_zero, dot_nil, Int.add_zero]
    rfl
  · rintro i u σ H' hi ⟨y3, rfl, rfl⟩
    have hlt : i < s1.2.length := by rw [← l1]; exact (List.getElem?_eq_some_iff.mp hi).1
    have hp : s1.2[i]? = some s1.2[i] := List.getElem?_eq_getElem hlt
    generalize s1.2[i] = p at hp
    have hmem := List.mem_of_getElem? hp
    obtain ⟨c, rfl, hc⟩ := (pair_at a3 hp hi).pair
    walk_at "go"
    refine XS.x_ixT hc (XS.atI_get (i := 1) rfl) ?_
    walk_at "go"
    refine XS.x_ixT hc (XS.atI_get (i := 0) rfl) ?_
    have g := DGet.k (k := Sum.inr p.1) hd
    rw [dOf_val] at g
    have hv := getP_look (hin p hmem)
    rw [hv] at g
    refine ⟨d, _, rfl, g, ?_⟩
    refine XS.x_I (XS.mul_ok (ss.2 p hmem) (look_sml sm hv)) ?_
    walk_at "go"
    refine ⟨some (.ref c), ?_, rfl⟩
    rw [XS.take_more hp, dot_app, dot_cons, dot_nil, Int.add_zero, ← Int.add_assoc]
    rfl
  · rintro σ H' ⟨y3, rfl, rfl⟩
    walk_at "go"
    rw [l1, List.take_length]
    exact q
abbrev s__law_sum_by : Stmt := topS 17
abbrev N__law_sum_by : List Str := ["_law_cell", "_law_names", "_law_wide", "_law_number", "_law_parts", "_law_name", "_law_by"]
abbrev P__law_sum_by : List Str := ["_law_cell", "_law_names", "_law_wide"]
theorem sc__law_sum_by : FnScope N__law_sum_by P__law_sum_by (defScope s__law_sum_by) := ⟨rfl, rfl, rfl, by decide +kernel, rfl, by decide +kernel, by decide +kernel⟩
theorem d__law_sum_by (F : FunAt K mg "_law_sum_by" s__law_sum_by P__law_sum_by) (Z : Bl mg) : DefAt P w K mg base CX0 1 "_law_sum_by" P__law_sum_by (sp_sum_by K) := by
  refine F.ok sc__law_sum_by (fun vs H Q E h => ?_) (fun f cdv A outer s H vs Q E hr h => ?_)
  · obtain ⟨_, _, _, _, rfl, _⟩ := h
    rfl
  obtain ⟨c, wd, nl, names, rfl, h1, nd, hl, w0, w1, q⟩ := h
  refine ⟨_, (pss_cons (ps_set (i := 3) sc__law_sum_by.nd rfl (Or.inl rfl) (pv 0))
        (pss_cons (ps_set (i := 4) sc__law_sum_by.nd rfl (Or.inl rfl) (pe_lst pa_nil))
        (pss_cons (ps_for PassesOwn.never rfl (pi_listK K (pe_callB (cr_sortedSK K) (by rfl) Z.sorted (by decide +kernel) (pa_cons (pv 1) pa_nil))) (pg_name (i := 5) sc__law_sum_by.nd rfl (Or.inl rfl))
          (pss_cons (ps_set (i := 3) sc__law_sum_by.nd rfl (Or.inl rfl) (pe_op op_mod (pe_op op_add (pe_op op_mul (pv 3) pe_int) pe_int) pe_int))
        (pss_cons (ps_set (i := 6) sc__law_sum_by.nd rfl (Or.inl rfl) (pe_op op_sub (pe_op op_modN (pe_op op_fdiv (pv 3) pe_int) (pe_op op_add (pe_op op_mul pe_int (pv 2)) pe_int)) (pv 2)))
        (pss_one (ps_if (pt_cmpR op_ne (pv 6) pe_int (nomark _))
          (pss_one (ps_expr (pe_bm PySem.F.plainAttrs_list PySem.F.slot_list_append PySem.F.type_list_append mt_append (pv 4) (pa_cons (pe_tup (pa_cons (pv 5) (pa_cons (pv 6) pa_nil))) pa_nil)))) pss_nil)))))
        (pss_cons (ps_set (i := 3) sc__law_sum_by.nd rfl (Or.inl rfl) (pe_op op_mod (pe_op op_add (pe_op op_mul (pv 3) pe_int) pe_int) pe_int))
        (pss_one (ps_ret (pe_tup (pa_cons (pe_op op_sub (pe_op op_mod (pe_op op_fdiv (pv 3) pe_int) pe_int) pe_int) (pa_cons (pe_callTy (call_tupK K) (by rfl) Z.tuple (by decide +kernel) (pa_cons (pv 4) pa_nil)) pa_nil))))))))), ?_⟩
  walk_at "go"
  refine ⟨XS.sz (by simp), fun p hp => ?_⟩
  obtain ⟨e1, h5⟩ := XS.newly (o := HO.lst _) hp
  generalize hH1 : upd _ p _ = H1 at e1 h5 ⊢
  walk_at "go"
  refine XS.x_sortS (e1.seq h1) (by omega) fun ys yl H2 hp2 hs2 hy2 e2 h2 => ?_
  have hne : p ≠ yl := fun q => by subst q; rw [h5] at hy2; cases hy2
  have es := srt_is nd hp2 hs2
  subst es
  have hlen : (srt names).length ≤ 8 := Nat.le_trans (srt_len names) hl
  refine XS.x_forL (SqL.of h2) (fun i σ H' => ∃ (y5 y6 : Option V) (us : List V), σ = [some (.int c), some (.ref nl), some (.int wd), some (.int (sumRun wd c ((srt names).take i)).1), some (.ref p), y5, y6] ∧ Same H H' ∧ H' yl = some (.lst ((srt names).map V.str)) ∧
    H' p = some (.lst us) ∧ DpAll K H' us ((sumRun wd c ((srt names).take i)).2.map prT) ∧ us.length ≤ i) ⟨none, none, [], rfl, e1.trans e2, h2, e2 _ _ h5, .nil, Nat.le_refl _⟩ (fun i σ H' _ ⟨_, _, _, _, _, h, _⟩ => SqL.of h) ?_ ?_
  · rintro i x σ H' hi ⟨y5, y6, us, rfl, e3, h3, h4, d4, l4⟩
    obtain ⟨z, hz, rfl⟩ := map_at hi
    have hmod : 0 ≤ mixN (sumRun wd c ((srt names).take i)).1 / 7 := Int.ediv_nonneg (mixN_b _).1 (by decide)
    have ii : i < (srt names).length := (List.getElem?_eq_some_iff.mp hz).1
    have tk : sumRun wd c ((srt names).take (i + 1)) = sumTurn wd (sumRun wd c ((srt names).take i)) z := by rw [XS.take_more hz, sumRun_more]
    walk_at "go"
    refine XS.x_I (by omega) ?_
    walk_at "go"
    rw [Int.fmod_eq_emod_of_nonneg _ (by omega : 0 ≤ 2 * wd + 1)]
    refine XS.x_dn (fun e => ?_) (fun e => ?_)
    · walk_at "go"
      refine XS.x_tyL' (XS.x_tyL h4) ?_
      walk_at "go"
      refine ⟨XS.sz (by simp), fun t ht => ?_⟩
      obtain ⟨e6, h6⟩ := XS.newly (o := HO.tup _) ht
      generalize hH6 : upd _ t _ = H6 at e6 h6 ⊢
      walk_at "go"
      have k := keeps_lst (ys := us ++ [.ref t]) (e6 _ _ h4)
      refine XS.x_app (e6 _ _ h4) (szl (by omega)) ?_
      walk_at "go"
      refine ⟨some (.str z), some (.int (byOf wd (mixN (sumRun wd c ((srt names).take i)).1))), us ++ [.ref t], ?_, XS.same_mut (e3.trans e6) hp, ?_, upd_same, ?_, by rw [List.length_append]; show us.length + 1 ≤ i + 1; omega⟩
      · rw [tk]
        rfl
      · rw [upd_ne (fun q => hne q.symm)]
        exact e6 _ _ h3
      · rw [tk]
        show DpAll K _ _ (List.map prT (if byOf wd (mixN (sumRun wd c ((srt names).take i)).1) = 0 then _ else _))
        rw [if_neg (show ¬ byOf wd (mixN (sumRun wd c ((srt names).take i)).1) = 0 from e), List.map_append]
        refine (DpAll.keeps k _ _ (im_pairs _) (DpAll.same e6 _ _ d4)).app (.one ?_)
        exact Dp.keeps k _ _ (im_pair _) (Dp.mkPair (p := (z, byOf wd (mixN (sumRun wd c ((srt names).take i)).1))) (SqT.of h6))
    · walk_at "go"
      refine ⟨some (.str z), some (.int (byOf wd (mixN (sumRun wd c ((srt names).take i)).1))), us, ?_, e3, h3, h4, ?_, by omega⟩
      · rw [tk]
        rfl
      · rw [tk]
        show DpAll K _ _ (List.map prT (if byOf wd (mixN (sumRun wd c ((srt names).take i)).1) = 0 then _ else _))
        rw [if_pos (show byOf wd (mixN (sumRun wd c ((srt names).take i)).1) = 0 from e)]
        exact d4
  · rintro σ H' ⟨y5, y6, us, rfl, e3, h3, h4, d4, l4⟩
    rw [List.length_map, List.take_length] at d4 ⊢
    walk_at "go"
    refine XS.x_tupL (SqL.of h4) fun t1 H4 ht1 e4 h6 => ?_
    walk_at "go"
    refine ⟨XS.sz (by simp), fun t ht => ?_⟩
    obtain ⟨e7, h7⟩ := XS.newly (o := HO.tup _) ht
    generalize hH7 : upd _ t _ = H7 at e7 h7 ⊢
    exact q t _ (e3.trans (e4.trans e7)) (Dp.mkSum (s := sumBy c names wd) (SqT.of h7) (SqT.of (e7 _ _ h6)) (DpAll.same (e4.trans e7) _ _ d4))

abbrev s__law_sum_is : Stmt := topS 20
abbrev N__law_sum_is : List Str := ["_law_one", "_law_names", "_law_last", "_law_pair"]
abbrev P__law_sum_is : List Str := ["_law_one", "_law_names"]
theorem sc__law_sum_is : FnScope N__law_sum_is P__law_sum_is (defScope s__law_sum_is) := ⟨rfl, rfl, rfl, by decide +kernel, rfl, by decide +kernel, by decide +kernel⟩
theorem d__law_sum_is (F : FunAt K mg "_law_sum_is" s__law_sum_is P__law_sum_is) (Z : Bl mg) (D__law_whole : DefAt P w K mg base CX0 1 "_law_whole" P__law_whole sp_whole) : DefAt P w K mg base CX0 2 "_law_sum_is" P__law_sum_is (sp_sum_is K) := by
  refine F.ok sc__law_sum_is (fun vs H Q E h => ?_) (fun f cdv A outer s H vs Q E hr h => ?_)
  · obtain ⟨_, _, _, _, rfl, _⟩ := h
    rfl
  obtain ⟨v, nl, s1, names, rfl, h1, hn, no, hin, q⟩ := h
  obtain ⟨a, b, us, rfl, a1, a2, a3⟩ := h1.sum
  have l1 := a3.len
  rw [List.length_map] at l1
  refine ⟨_, (pss_cons (ps_if (PW.pt (pw_or (pt_not (pt_val (pe_callB (call_isiK K) (by rfl) Z.isinstance (by decide +kernel) (pa_cons (pv 0) (pa_cons (pe_bltn (v := .ty "tuple") rfl Z.tuple (by decide +kernel) rfl) pa_nil))))) (pw_or (pt_cmpR op_ne (pe_callB (call_lenK K) (by rfl) Z.len PySem.boot_len (pa_cons (pv 0) pa_nil)) pe_int (nomark _)) (pw_or (pt_not (pt_val (pe_callD D__law_whole (hr.mono (by first | exact Nat.le_refl _ | omega | decide)) rfl pass0 (pa_cons (pe_ix (ix_tupK K) (pv 0) pe_int (fun _ _ => rfl)) pa_nil)))) (pw_or1 (pt_not (pt_val (pe_callB (call_isiK K) (by rfl) Z.isinstance (by decide +kernel) (pa_cons (pe_ix (ix_tupK K) (pv 0) pe_int (fun _ _ => rfl)) (pa_cons (pe_bltn (v := .ty "tuple") rfl Z.tuple (by decide +kernel) rfl) pa_nil))))))))))
          (pss_one (ps_ret pe_bl)) pss_nil)
        (pss_cons (ps_set (i := 2) sc__law_sum_is.nd rfl (Or.inl rfl) pe_str)
        (pss_cons (ps_for PassesOwn.never rfl (pi_tupK K (pe_ix (ix_tupK K) (pv 0) pe_int (fun _ _ => rfl))) (pg_name (i := 3) sc__law_sum_is.nd rfl (Or.inl rfl))
          (pss_cons (ps_if (PW.pt (pw_or (pt_not (pt_val (pe_callB (call_isiK K) (by rfl) Z.isinstance (by decide +kernel) (pa_cons (pv 3) (pa_cons (pe_bltn (v := .ty "tuple") rfl Z.tuple (by decide +kernel) rfl) pa_nil))))) (pw_or (pt_cmpR op_ne (pe_callB (call_lenK K) (by rfl) Z.len PySem.boot_len (pa_cons (pv 3) pa_nil)) pe_int (nomark _)) (pw_or1 (pt_not (pt_val (pe_callB (call_isiK K) (by rfl) Z.isinstance (by decide +kernel) (pa_cons (pe_ix (ix_tupK K) (pv 3) pe_int (fun _ _ => rfl)) (pa_cons (pe_bltn (v := .ty "str") rfl Z.str (by decide +kernel) rfl) pa_nil)))))))))
          (pss_one (ps_ret pe_bl)) pss_nil)
        (pss_cons (ps_if (PW.pt (pw_or (pt_not (pt_val (pe_callD D__law_whole (hr.mono (by first | exact Nat.le_refl _ | omega | decide)) rfl pass0 (pa_cons (pe_ix (ix_tupK K) (pv 3) pe_int (fun _ _ => rfl)) pa_nil)))) (pw_or (pt_cmpR op_eq (pe_ix (ix_tupK K) (pv 3) pe_int (fun _ _ => rfl)) pe_int (nomark _)) (pw_or (pt_cmpR op_le_str (pe_ix (ix_tupK K) (pv 3) pe_int (fun _ _ => rfl)) (pv 2) (nomark _)) (pw_or1 (pt_cmpR (op_notInK K) (pe_ix (ix_tupK K) (pv 3) pe_int (fun _ _ => rfl)) (pv 1) (by rfl)))))))
          (pss_one (ps_ret pe_bl)) pss_nil)
        (pss_one (ps_set (i := 2) sc__law_sum_is.nd rfl (Or.inl rfl) (pe_ix (ix_tupK K) (pv 3) pe_int (fun _ _ => rfl)))))))
        (pss_one (ps_ret pe_bl))))), ?_⟩
  walk_at "go"
  refine XS.x_isi (XS.tyx_T a1) XS.k_tup_tup ?_
  walk_at "go"
  refine XS.x_lenT a1 ?_
  walk_at "go"
  refine XS.x_no (by simp) ?_
  walk_at "go"
  refine XS.x_ixT a1 (XS.atI_get (i := 0) rfl) ?_
  walk_at "go"
  refine ⟨_, rfl, ?_⟩
  walk_at "go"
  refine XS.x_ixT a1 (XS.atI_get (i := 1) rfl) ?_
  walk_at "go"
  refine XS.x_isi (XS.tyx_T a2) XS.k_tup_tup ?_
  walk_at "go"
  refine XS.x_ixT a1 (XS.atI_get (i := 1) rfl) ?_
  refine XS.x_forT a2 (fun i σ H' => ∃ y3 : Option V, σ = [some (.ref a), some (.ref nl), some (.str (lastN s1.2 i)), y3] ∧ H' = H) ⟨none, rfl, rfl⟩ (fun i σ H' _ ⟨_, _, e⟩ => by rw [e]; exact a2) ?_ ?_
  · rintro i u σ H' hi ⟨y3, rfl, rfl⟩
    have hlt : i < s1.2.length := by rw [← l1]; exact (List.getElem?_eq_some_iff.mp hi).1
    have hp : s1.2[i]? = some s1.2[i] := List.getElem?_eq_getElem hlt
    generalize s1.2[i] = p at hp
    have hmem := List.mem_of_getElem? hp
    obtain ⟨c, rfl, hc⟩ := (pair_at a3 hp hi).pair
    obtain ⟨m1, m2⟩ := hin p hmem
    walk_at "go"
    refine XS.x_isi (XS.tyx_T hc) XS.k_tup_tup ?_
    walk_at "go"
    refine XS.x_lenT hc ?_
    walk_at "go"
    refine XS.x_no (by simp) ?_
    walk_at "go"
    refine XS.x_ixT hc (XS.atI_get (i := 0) rfl) ?_
    walk_at "go"
    refine XS.x_isi (.base (.str p.1)) XS.k_str_str ?_
    walk_at "go"
    refine XS.x_ixT hc (XS.atI_get (i := 1) rfl) ?_
    walk_at "go"
    refine ⟨_, rfl, ?_⟩
    walk_at "go"
    refine XS.x_ixT hc (XS.atI_get (i := 1) rfl) ?_
    walk_at "go"
    refine XS.x_no (by simpa using no.nz p hmem) ?_
    walk_at "go"
    refine XS.x_ixT hc (XS.atI_get (i := 0) rfl) ?_
    walk_at "go"
    refine ⟨_, _, rfl, rfl, ?_⟩
    walk_at "go"
    refine XS.x_no (by rw [decide_eq_true (lastN_lt no hp m2)]; rfl) ?_
    walk_at "go"
    refine XS.x_ixT hc (XS.atI_get (i := 0) rfl) ?_
    walk_at "go"
    refine ⟨nl, names.map V.str, rfl, .inl hn, rfl, flat_strs _, ?_⟩
    rw [inV_str, decide_eq_true m1]
    walk_at "go"
    refine XS.x_no rfl ?_
    walk_at "go"
    refine XS.x_ixT hc (XS.atI_get (i := 0) rfl) ?_
    walk_at "go"
    refine ⟨some (.ref c), ?_, rfl⟩
    rw [lastN_next hp]
    rfl
  · rintro σ H' ⟨y3, rfl, rfl⟩
    walk_at "go"
    exact q
abbrev s__law_refused : Stmt := topS 23
abbrev N__law_refused : List Str := ["_law_one", "_law_values", "_law_e"]
abbrev P__law_refused : List Str := ["_law_one", "_law_values"]
theorem sc__law_refused : FnScope N__law_refused P__law_refused (defScope s__law_refused) := ⟨rfl, rfl, rfl, by decide +kernel, rfl, by decide +kernel, by decide +kernel⟩
theorem d__law_refused {eS eV eP eN : Addr} (Y : Er K mg eS eV eP eN) (F : FunAt K mg "_law_refused" s__law_refused P__law_refused) (Z : Bl mg) (D_value : DefAt P w K mg base (L2.CX P w) 4 "value" P_value (sp_value K eV))
    (D__law_word_of : DefP P w K mg base 1 "_law_word_of" P__law_word_of (sp_word_of eV eP eN)) : DefAt P w K mg base CX0 5 "_law_refused" P__law_refused (sp_refused2 K) := by
  refine F.ok sc__law_refused (fun vs H Q E h => ?_) (fun f cdv A outer s H vs Q E hr h => ?_)
  · obtain ⟨_, _, _, _, rfl, _⟩ := h
    rfl
  obtain ⟨v, d, s1, m, rfl, h1, hd, ss, sm, hz, q⟩ := h
  refine ⟨_, (pss_cons (ps_try_as (i := 2) rfl rfl sc__law_refused.nd rfl rfl ⟨rfl, by decide, .inl Y.g_SomeError⟩ takes0 (fun W pn xe tk _ => (pss_one (ps_expr (pe_callX D_value (hr.mono (by first | exact Nat.le_refl _ | omega | decide)) rfl (fun σ => passAt tk σ) (pa_cons (pv 0) (pa_cons (pv 1) pa_nil))))))
          (fun a oe cls d pn hz hf => (pss_one (ps_ret (pe_callP D__law_word_of List.mem_cons_self hz hf (roomH_mark hr (by first | exact Nat.le_refl _ | omega | decide)) rfl (pa_cons (pv 2) pa_nil))))))
        (pss_one (ps_ret pe_str))), ?_⟩
  walk_at "go"
  refine ⟨v, d, s1, m, rfl, h1, hd, ss, sm, hz, fun hin => ?_, fun hno => ?_⟩
  · walk_at "go"
    have e : (s1.2.all fun p => decide (p.1 ∈ m.map (·.1))) = true := List.all_eq_true.mpr fun p hp => decide_eq_true (hin p hp)
    rw [e] at q
    exact q _ (Same.refl _)
  · refine ⟨true, Y.m_V, fun _ a ha => ?_, fun q => nomatch q⟩
    have e : (s1.2.all fun p => decide (p.1 ∈ m.map (·.1))) = false := by
      obtain ⟨p, hp, hn⟩ := hno
      exact Bool.eq_false_iff.mpr fun t => hn (of_decide_eq_true (List.all_eq_true.mp t p hp))
    rw [e] at q
    refine XS.x_ret ?_
    walk_at "go"
    exact ⟨rfl, .value, rfl, fun H' e2 => q H' e2⟩

abbrev s_law : Stmt := topS 24
abbrev N_law : List Str := ["_law_script", "_law_names", "_law_one", "_law_other", "_law_by", "_law_name", "_law_values", "_law_k", "_law_ones", "_law_others", "_law_shares", "_law_rows", "_law_row", "_law_given", "_law_handed", "_law_due", "_law_pair"]
abbrev P_law : List Str := ["_law_script"]
theorem sc_law : FnScope N_law P_law (defScope s_law) := ⟨rfl, rfl, rfl, by decide +kernel, rfl, by decide +kernel, by decide +kernel⟩
theorem d_law {eS eV eP eN : Addr} (Y : Er K mg eS eV eP eN) {fl : Addr} {fdl : FuncData} (F : Fun K "law" "law" s_law fl fdl) (Z : Bl mg) (D__law_cell_at : DefAt P w K mg base CX0 1 "_law_cell_at" P__law_cell_at (sp_cell_at K)) (D__law_names_by : DefAt P w K mg base CX0 1 "_law_names_by" P__law_names_by sp_names_by)
    (D__law_big_by : DefAt P w K mg base CX0 1 "_law_big_by" P__law_big_by sp_big_by) (D__law_alike : DefAt P w K mg base CX0 9 "_law_alike" P__law_alike (sp_alike 8 K)) (D__law_sum_by : DefAt P w K mg base CX0 1 "_law_sum_by" P__law_sum_by (sp_sum_by K))
    (D__law_value : DefAt P w K mg base CX0 1 "_law_value" P__law_value (sp_lvalue K)) (D__law_sum_is : DefAt P w K mg base CX0 2 "_law_sum_is" P__law_sum_is (sp_sum_is K)) (D__law_refused : DefAt P w K mg base CX0 5 "_law_refused" P__law_refused (sp_refused2 K))
    (D_value : DefAt P w K mg base (L2.CX P w) 4 "value" P_value (sp_value K eV)) (D_added : DefAt P w K mg base CX0 2 "added" P_added (sp_added K)) (D_times : DefAt P w K mg base CX0 2 "times" P_times (sp_times K))
    (D_without : DefAt P w K mg base CX0 2 "without" P_without (sp_without K)) (D_put_in : DefAt P w K mg base CX0 3 "put_in" P_put_in (sp_put_in K)) : FnOk P w K mg base CX0 10 fl fdl P_law (sp_law K) := by
  refine F.ok sc_law (fun vs H Q E h => ?_) (fun cdv A outer s H vs Q E hr h => ?_)
  · obtain ⟨_, _, rfl, _⟩ := h
    rfl
  obtain ⟨a, ns, rfl, hS, h63, q⟩ := h
  have hu := hu_of hr
  refine ⟨_, (pss_cons (ps_set (i := 1) sc_law.nd rfl (Or.inl rfl) (pe_callD D__law_names_by (hr.mono (by first | exact Nat.le_refl _ | omega | decide)) rfl pass0 (pa_cons (pe_callD D__law_cell_at (hr.mono (by first | exact Nat.le_refl _ | omega | decide)) rfl pass0 (pa_cons (pv 0) (pa_cons pe_int pa_nil))) pa_nil)))
        (pss_cons (ps_set (i := 2) sc_law.nd rfl (Or.inl rfl) (pe_callD D__law_sum_by (hr.mono (by first | exact Nat.le_refl _ | omega | decide)) rfl pass0 (pa_cons (pe_callD D__law_cell_at (hr.mono (by first | exact Nat.le_refl _ | omega | decide)) rfl pass0 (pa_cons (pv 0) (pa_cons pe_int pa_nil))) (pa_cons (pe_slice (sl_listK K) (pv 1) po_none (po_some pe_int)) (pa_cons pe_int pa_nil)))))
        (pss_cons (ps_set (i := 3) sc_law.nd rfl (Or.inl rfl) (pe_callD D__law_sum_by (hr.mono (by first | exact Nat.le_refl _ | omega | decide)) rfl pass0 (pa_cons (pe_callD D__law_cell_at (hr.mono (by first | exact Nat.le_refl _ | omega | decide)) rfl pass0 (pa_cons (pv 0) (pa_cons pe_int pa_nil))) (pa_cons (pe_slice (sl_listK K) (pv 1) (po_some pe_int) po_none) (pa_cons pe_int pa_nil)))))
        (pss_cons (ps_set (i := 4) sc_law.nd rfl (Or.inl rfl) (pe_callD D__law_big_by (hr.mono (by first | exact Nat.le_refl _ | omega | decide)) rfl pass0 (pa_cons (pe_callD D__law_cell_at (hr.mono (by first | exact Nat.le_refl _ | omega | decide)) rfl pass0 (pa_cons (pv 0) (pa_cons pe_int pa_nil))) pa_nil)))
        (pss_cons (ps_set (i := 5) sc_law.nd rfl (Or.inr rfl) (pe_ix (ix_listK K) (pv 1) (pe_op op_mod (pe_callD D__law_cell_at (hr.mono (by first | exact Nat.le_refl _ | omega | decide)) rfl pass0 (pa_cons (pv 0) (pa_cons pe_int pa_nil))) pe_int) (fun _ _ => rfl)))
        (pss_cons (ps_set (i := 6) sc_law.nd rfl (Or.inl rfl) pe_dnewK)
        (pss_cons (ps_for PassesOwn.never rfl (pi_range1 rfl Z.range (pa_cons pe_int pa_nil)) (pg_name (i := 7) sc_law.nd rfl (Or.inl rfl))
          (pss_one (ps_dput hu (pv 6) (pe_ix (ix_listK K) (pv 1) (pv 7) (fun _ _ => rfl)) (pe_callD D__law_big_by (hr.mono (by first | exact Nat.le_refl _ | omega | decide)) rfl pass0 (pa_cons (pe_callD D__law_cell_at (hr.mono (by first | exact Nat.le_refl _ | omega | decide)) rfl pass0 (pa_cons (pv 0) (pa_cons (pe_op op_add pe_int (pv 7)) pa_nil))) pa_nil)) rfl)))
        (pss_cons (ps_set (i := 8) sc_law.nd rfl (Or.inl rfl) (pe_callD D__law_value (hr.mono (by first | exact Nat.le_refl _ | omega | decide)) rfl pass0 (pa_cons (pv 2) (pa_cons (pv 6) pa_nil))))
        (pss_cons (ps_set (i := 9) sc_law.nd rfl (Or.inl rfl) (pe_callD D__law_value (hr.mono (by first | exact Nat.le_refl _ | omega | decide)) rfl pass0 (pa_cons (pv 3) (pa_cons (pv 6) pa_nil))))
        (pss_cons (ps_set (i := 10) sc_law.nd rfl (Or.inl rfl) (pe_callB (cr_sumK K rfl) (by rfl) Z.sum (by decide +kernel) (pa_cons (pe_lc (own := [("_law_pair", 16)]) (by rfl) sc_law.nd (pi_tupK K (pe_ix (ix_tupK K) (pv 2) pe_int (fun _ _ => rfl))) (blkOk_by (own := [("_law_pair", 16)]) (N := N_law) (sc := defScope s_law) (by decide +kernel)) (fun _ _ _ _ _ => (pg_name (i := 16) sc_law.nd rfl (Or.inl rfl))) (fun _ _ _ _ _ => (pts_one (pt_cmpR op_eq (pe_ix (ix_tupK K) (pv 16) pe_int (fun _ _ => rfl)) (pv 5) (nomark _)))) (fun _ _ _ _ _ => (pe_ix (ix_tupK K) (pv 16) pe_int (fun _ _ => rfl)))) pa_nil)))
        (pss_cons (ps_set (i := 11) sc_law.nd rfl (Or.inl rfl) (pe_lst (pa_cons (pe_tup (pa_cons (pe_callD D_added (hr.mono (by first | exact Nat.le_refl _ | omega | decide)) rfl pass0 (pa_cons (pv 2) (pa_cons (pv 3) pa_nil))) (pa_cons (pe_op op_add (pv 8) (pv 9)) pa_nil))) (pa_cons (pe_tup (pa_cons (pe_callD D_times (hr.mono (by first | exact Nat.le_refl _ | omega | decide)) rfl pass0 (pa_cons (pv 4) (pa_cons (pv 2) pa_nil))) (pa_cons (pe_op op_mulW (pv 4) (pv 8)) pa_nil))) pa_nil))))
        (pss_cons (ps_expr (pe_bm PySem.F.plainAttrs_list PySem.F.slot_list_append PySem.F.type_list_append mt_append (pv 11) (pa_cons (pe_tup (pa_cons (pe_callD D_without (hr.mono (by first | exact Nat.le_refl _ | omega | decide)) rfl pass0 (pa_cons (pv 2) (pa_cons (pv 5) pa_nil))) (pa_cons (pe_op op_sub (pv 8) (pe_op op_mulW (pv 10) (pe_dget hu (pv 6) (pv 5) (fun _ _ => rfl)))) pa_nil))) pa_nil)))
        (pss_cons (ps_expr (pe_bm PySem.F.plainAttrs_list PySem.F.slot_list_append PySem.F.type_list_append mt_append (pv 11) (pa_cons (pe_tup (pa_cons (pe_callD D_put_in (hr.mono (by first | exact Nat.le_refl _ | omega | decide)) rfl pass0 (pa_cons (pv 2) (pa_cons (pv 5) (pa_cons (pv 3) pa_nil)))) (pa_cons (pe_op op_add (pe_op op_sub (pv 8) (pe_op op_mulW (pv 10) (pe_dget hu (pv 6) (pv 5) (fun _ _ => rfl)))) (pe_op op_mulW (pv 10) (pv 9))) pa_nil))) pa_nil)))
        (pss_cons (ps_for PassesOwn.never rfl (pi_listK K (pv 11)) (pg_name (i := 12) sc_law.nd rfl (Or.inl rfl))
          (pss_one (ps_if (PW.pt (pw_or (pt_not (pt_val (pe_callD D__law_sum_is (hr.mono (by first | exact Nat.le_refl _ | omega | decide)) rfl pass0 (pa_cons (pe_ix (ix_tupK K) (pv 12) pe_int (fun _ _ => rfl)) (pa_cons (pv 1) pa_nil))))) (pw_or1 (pt_not (pt_val (pe_callD D__law_alike (hr.mono (by first | exact Nat.le_refl _ | omega | decide)) rfl pass0 (pa_cons (pe_callD D_value (hr.mono (by first | exact Nat.le_refl _ | omega | decide)) rfl passL (pa_cons (pe_ix (ix_tupK K) (pv 12) pe_int (fun _ _ => rfl)) (pa_cons (pv 6) pa_nil))) (pa_cons (pe_ix (ix_tupK K) (pv 12) pe_int (fun _ _ => rfl)) pa_nil))))))))
          (pss_one (ps_ret pe_bl)) pss_nil)))
        (pss_cons (ps_if (PW.pt (pw_or (pt_cmpR (op_neK K hr.units) (pe_lc (own := [("_law_pair", 16)]) (by rfl) sc_law.nd (pi_tupK K (pe_ix (ix_tupK K) (pe_ix (ix_tupK K) (pe_ix (ix_listK K) (pv 11) pe_int (fun _ _ => rfl)) pe_int (fun _ _ => rfl)) pe_int (fun _ _ => rfl))) (blkOk_by (own := [("_law_pair", 16)]) (N := N_law) (sc := defScope s_law) (by decide +kernel)) (fun _ _ _ _ _ => (pg_name (i := 16) sc_law.nd rfl (Or.inl rfl))) (fun _ _ _ _ _ => (pts_one (pt_cmpR op_eq (pe_ix (ix_tupK K) (pv 16) pe_int (fun _ _ => rfl)) (pv 5) (nomark _)))) (fun _ _ _ _ _ => (pv 16))) (pe_lst pa_nil) (nomark _)) (pw_or1 (pt_not (pt_val (pe_callD D__law_alike (hr.mono (by first | exact Nat.le_refl _ | omega | decide)) rfl pass0 (pa_cons (pe_callD D_value (hr.mono (by first | exact Nat.le_refl _ | omega | decide)) rfl passL (pa_cons (pv 2) (pa_cons (pv 6) pa_nil))) (pa_cons (pv 8) pa_nil))))))))
          (pss_one (ps_ret pe_bl)) pss_nil)
        (pss_cons (ps_set (i := 13) sc_law.nd rfl (Or.inl rfl) (pe_callTy call_dictD (by rfl) Z.dict (by decide +kernel) (pa_cons (pv 6) pa_nil)))
        (Evl.pss_cut (ps_if (pt_cmpR op_eq (pe_op op_mod (pe_callD D__law_cell_at (hr.mono (by first | exact Nat.le_refl _ | omega | decide)) rfl pass0 (pa_cons (pv 0) (pa_cons pe_int pa_nil))) pe_int) pe_int (nomark _))
          (pss_one (ps_expr (pe_dpop1 (pv 13) (pv 5) ⟨by rfl, by rfl, by rfl, by rfl⟩))) pss_nil)
        (pss_cons (ps_set (i := 14) sc_law.nd rfl (Or.inl rfl) (pe_callTy call_dictD (by rfl) Z.dict (by decide +kernel) (pa_cons (pv 13) pa_nil)))
        (Evl.pss_cut (ps_set (i := 15) sc_law.nd rfl (Or.inl rfl) (pe_ix (ix_listK K) (pe_lst (pa_cons pe_str (pa_cons pe_str pa_nil))) (pe_callTy call_int1 (by rfl) Z.int (by decide +kernel) (pa_cons (pe_and (pe_cmpR op_ne (pv 10) pe_int (nomark _)) (pe_one (pe_cmp (pc_dnotin hu (pv 5) (pv 13))))) pa_nil)) (fun _ _ => rfl)))
        (pss_cons (ps_if (PW.pt (pw_or (pt_cmpR op_ne (pe_callD D__law_refused (hr.mono (by first | exact Nat.le_refl _ | omega | decide)) rfl pass0 (pa_cons (pv 2) (pa_cons (pv 14) pa_nil))) (pv 15) (nomark _)) (pw_or1 (pt_cmpR (op_ne_dictA (Nat.lt_of_succ_lt hu)) (pv 14) (pv 13) (nomark _)))))
          (pss_one (ps_ret pe_bl)) pss_nil)
        (pss_one (ps_ret (pe_callD D__law_alike (hr.mono (by first | exact Nat.le_refl _ | omega | decide)) rfl pass0 (pa_cons (pv 2) (pa_cons (pe_callD D__law_sum_by (hr.mono (by first | exact Nat.le_refl _ | omega | decide)) rfl pass0 (pa_cons (pe_callD D__law_cell_at (hr.mono (by first | exact Nat.le_refl _ | omega | decide)) rfl pass0 (pa_cons (pv 0) (pa_cons pe_int pa_nil))) (pa_cons (pe_slice (sl_listK K) (pv 1) po_none (po_some pe_int)) (pa_cons pe_int pa_nil)))) pa_nil))))))))))))))))))))))))), ?_⟩
  walk_at "go"
  refine ⟨a, ns, 0, rfl, by decide, hS, ?_⟩
  walk_at "go"
  refine ⟨_, rfl, fun nl H1 hnl e1 h1 => ?_⟩
  have hLen : (namesBy (cell ns 0)).length = 4 := namesBy_len _
  have hNd : (namesBy (cell ns 0)).Nodup := namesBy_nd _
  have hWd : ∀ x ∈ namesBy (cell ns 0), Word x.cps.toList := fun x hx => namesBy_word hx
  have hAt : ∀ n : Int, 0 ≤ n → n < 4 → ∃ x, atI ((namesBy (cell ns 0)).map V.str) n = some (.str x) ∧ x ∈ namesBy (cell ns 0) := fun n h1 h2 => names_at h1 h2
  generalize namesBy (cell ns 0) = nm at h1 hLen hNd hWd hAt ⊢
  walk_at "go"
  refine ⟨a, ns, 1, rfl, by decide, e1.seq hS, ?_⟩
  walk_at "go"
  refine ⟨nl, nm.map V.str, rfl, SqL.of h1, fun p2 hp2 => ?_⟩
  rw [cut_take3, ← List.map_take]
  obtain ⟨e2, h2⟩ := XS.newly (o := HO.lst _) hp2
  generalize hH2 : upd _ p2 _ = H2 at e2 h2 ⊢
  walk_at "go"
  have hNd3 : (nm.take 3).Nodup := hNd.sublist (List.take_sublist 3 nm)
  have hNd1 : (nm.drop 1).Nodup := hNd.sublist (List.drop_sublist 1 nm)
  refine ⟨cell ns 1, 3, p2, nm.take 3, rfl, SqL.of h2, hNd3, by rw [List.length_take]; omega, by decide, by decide, fun t1 H3 e3 d1 => ?_⟩
  walk_at "go"
  have e13 := e1.trans (e2.trans e3)
  refine ⟨a, ns, 2, rfl, by decide, e13.seq hS, ?_⟩
  walk_at "go"
  have n3 : H3 nl = some (.lst (nm.map V.str)) := e3 _ _ (e2 _ _ h1)
  refine ⟨nl, nm.map V.str, rfl, SqL.of n3, fun p4 hp4 => ?_⟩
  rw [cut_drop1, ← List.map_drop]
  obtain ⟨e4, h4⟩ := XS.newly (o := HO.lst _) hp4
  generalize hH4 : upd _ p4 _ = H4 at e4 h4 ⊢
  walk_at "go"
  refine ⟨cell ns 2, 3, p4, nm.drop 1, rfl, SqL.of h4, hNd1, by rw [List.length_drop]; omega, by decide, by decide, fun t2 H5 e5 d2 => ?_⟩
  walk_at "go"
  have e15 := e13.trans (e4.trans e5)
  refine ⟨a, ns, 3, rfl, by decide, e15.seq hS, ?_⟩
  walk_at "go"
  refine ⟨_, rfl, fun H6 e6 => ?_⟩
  walk_at "go"
  have e16 := e15.trans e6
  refine ⟨a, ns, 4, rfl, by decide, e16.seq hS, ?_⟩
  walk_at "go"
  obtain ⟨x, hx, hxm⟩ := hAt (cell ns 4 % 4) (Int.emod_nonneg _ (by decide)) (Int.emod_lt_of_pos _ (by decide))
  have n6 : H6 nl = some (.lst (nm.map V.str)) := e6 _ _ (e5 _ _ (e4 _ _ n3))
  refine XS.x_ixL (SqL.of n6) hx ?_
  walk_at "go"
  -- values
  refine (fun d hd => ?_)
  obtain ⟨e7, h7⟩ := XS.newly (o := HO.dK []) hd
  generalize hH7 : upd _ d _ = H7 at e7 h7 ⊢
  walk_at "go"
  refine XS.x_forR1 ⟨by decide, by decide⟩ (fun i σ H' => ∃ (y7 : Option V) (m : List Pr), σ = [some (.ref a), some (.ref nl), some (.ref t1), some (.ref t2), some (.int (bigBy (cell ns 3))), some (.str x), some (.ref d), y7, none, none, none, none, none, none, none, none, none] ∧
    Same H6 H' ∧ H' d = some (.dK (dOf m)) ∧ m.map (·.1) = nm.take i ∧ (∀ p ∈ m, p.2.natAbs ≤ 10 ^ 60)) ⟨none, [], rfl, e7, h7, by rw [List.take_zero]; rfl, (by intro p hp; cases hp)⟩ ?_ ?_
  · rintro i σ H' hi ⟨y7, m, rfl, e8, h8, m8, s8⟩
    walk_at "go"
    refine ⟨a, ns, 5 + i, rfl, by omega, (e16.trans e8).seq hS, ?_⟩
    walk_at "go"
    refine ⟨_, rfl, fun H9 e9 => ?_⟩
    walk_at "go"
    obtain ⟨z, hz⟩ : ∃ z, nm[i]? = some z := ⟨_, List.getElem?_eq_getElem (by omega)⟩
    refine XS.x_ixL (SqL.of (e9 _ _ (e8 _ _ n6))) (XS.atI_get (i := i) (v := .str z) (by rw [List.getElem?_map, hz]; rfl)) ?_
    have h9 := e9 _ _ h8
    have hml : m.length = i := by
      have := congrArg List.length m8
      rw [List.length_map, List.length_take, hLen] at this
      omega
    have hzn : z ∉ m.map (·.1) := by
      rw [m8]
      intro hm
      obtain ⟨j, hj, ej⟩ := List.mem_take_iff_getElem.mp hm
      have hi2 : i < nm.length := by omega
      have ez : nm[i] = z := (List.getElem?_eq_some_iff.mp hz).2
      have := XS.nd_inj hNd (i := j) (j := i) (by omega) hi2 (by rw [ej, ez])
      omega
    refine ⟨d, _, rfl, DPut.k (k := Sum.inr z) h9 (szl (by rw [dOf_len]; omega)), ?_⟩
    rw [dOf_put, putP_new hzn]
    refine ⟨_, _, rfl, XS.same_mut (e8.trans e9) hd, upd_same, ?_, ?_⟩
    · rw [List.map_append, m8, XS.take_more hz]
      rfl
    · intro p hp
      rcases List.mem_append.mp hp with hp | hp
      · exact s8 p hp
      · simp at hp
        subst hp
        exact Nat.le_of_lt (bigBy_b _)
  · rintro σ H8 ⟨y7, m, rfl, e8, h8, m8, s8'⟩
    have s8 := sml_all s8'
    have m4 : m.map (·.1) = nm := by rw [m8, List.take_of_length_le (by rw [hLen]; decide)]
    clear m8
    have hmn : ∀ y, y ∈ m.map (·.1) ↔ y ∈ nm := fun y => by rw [m4]
    have b1 : Bnd 9 3 (sumBy (cell ns 1) (nm.take 3) 3) := bnd_by (by decide)
    have b2 : Bnd 9 3 (sumBy (cell ns 2) (nm.drop 1) 3) := bnd_by (by decide)
    have o1 : Norm (sumBy (cell ns 1) (nm.take 3) 3).2 := sumBy_norm (by decide)
    have o2 : Norm (sumBy (cell ns 2) (nm.drop 1) 3).2 := sumBy_norm (by decide)
    have l1 : (sumBy (cell ns 1) (nm.take 3) 3).2.length ≤ 3 := Nat.le_trans (sumBy_len (by decide)) (by rw [List.length_take]; omega)
    have l2 : (sumBy (cell ns 2) (nm.drop 1) 3).2.length ≤ 3 := Nat.le_trans (sumBy_len (by decide)) (by rw [List.length_drop]; omega)
    have i1 : ∀ p ∈ (sumBy (cell ns 1) (nm.take 3) 3).2, p.1 ∈ nm := fun p hp => List.mem_of_mem_take (sumBy_mem (by decide) hp)
    have i2 : ∀ p ∈ (sumBy (cell ns 2) (nm.drop 1) 3).2, p.1 ∈ nm := fun p hp => List.mem_of_mem_drop (sumBy_mem (by decide) hp)
    have d1' := Dp.same ((e4.trans e5).trans (e6.trans e8)) _ _ d1
    have d2' := Dp.same (e6.trans e8) _ _ d2
    have n8 := e8 _ _ n6
    generalize hone : sumBy (cell ns 1) (nm.take 3) 3 = one at *
    generalize hoth : sumBy (cell ns 2) (nm.drop 1) 3 = oth at *
    have sml1 : SmlS one := b1.sml o1.rise.nodup (by decide) (by decide)
    have sml2 : SmlS oth := b2.sml o2.rise.nodup (by decide) (by decide)
    walk_at "go"
    refine ⟨_, d, one, m, rfl, d1', h8, sml1, s8, fun p hp => (hmn _).mpr (i1 p hp), ?_⟩
    walk_at "go"
    refine ⟨_, d, oth, m, rfl, d2', h8, sml2, s8, fun p hp => (hmn _).mpr (i2 p hp), ?_⟩
    walk_at "go"
    obtain ⟨ta, tb, us, eu, a1, a2, a3⟩ := d1'.sum
    cases eu
    have l3 := a3.len
    rw [List.length_map] at l3
    refine XS.x_ixT a1 (XS.atI_get (i := 1) rfl) ?_
    refine XS.x_lcT (K := K) one.2 us (fun p => decide (p.1 = x)) (fun p => .int p.2) a2 l3 (by omega) (fun _ => .int _) (fun i p u hi hu' H9 Yes No e9 yes no => ?_) (fun l H9 acc hl e9 hacc had => ?_)
    · obtain ⟨b, rfl, hb⟩ := (pair_at a3 hi hu').pair
      walk_at "go"
      refine ⟨rfl, ?_⟩
      walk_at "go"
      refine XS.x_ixT (e9.seqT hb) (XS.atI_get (i := 0) rfl) ?_
      walk_at "go"
      refine XS.x_d (fun c => ?_) (fun c => ?_)
      · walk_at "go"
        refine XS.x_ixT (e9.seqT hb) (XS.atI_get (i := 1) rfl) ?_
        exact yes _ _ (Same.refl _) (by simpa using c) (.int _)
      · exact no _ (Same.refl _) (by simpa using c)
    have e10 : (one.2.filter fun p => decide (p.1 = x)).map (fun p => PyData.int p.2) = ((one.2.filter fun p => decide (p.1 = x)).map (·.2)).map PyData.int := by rw [List.map_map]; rfl
    rw [e10] at had
    rw [had.ints] at hacc
    walk_at "go"
    refine XS.x_sum (SqL.of hacc) ?_
    walk_at "go"
    rw [show ((one.2.filter fun p => decide (p.1 = x)).map (·.2)).sum = shr one.2 x from rfl]
    have d1a := Dp.same e9 _ _ d1'
    have d2a := Dp.same e9 _ _ d2'
    have h9 := e9 _ _ h8
    have hb60 : (bigBy (cell ns 3)).natAbs ≤ 10 ^ 60 := Nat.le_of_lt (bigBy_b _)
    generalize bigBy (cell ns 3) = by3 at hb60 ⊢
    have smlb : Sml by3 := sml_of (n := 200) (Nat.lt_of_le_of_lt hb60 (by decide)) (by decide)
    -- the rows
    refine ⟨_, _, one, oth, rfl, d1a, d2a, by omega, fun r1 H10 e10 d10 => ?_⟩
    walk_at "go"
    refine ⟨XS.sz (by simp), fun q1 hq1 => ?_⟩
    obtain ⟨e11, h11⟩ := XS.newly (o := HO.tup _) hq1
    generalize hH11 : upd _ q1 _ = H11 at e11 h11 ⊢
    walk_at "go"
    refine ⟨_, _, one, rfl, Dp.same (e10.trans e11) _ _ d1a, by omega, smlb, sml1, fun r2 H12 e12 d12 => ?_⟩
    walk_at "go"
    have B1 : (valS (look m) one).natAbs ≤ 9 + 3 * (3 * 10 ^ 60) := Nat.le_trans (b1.val o1.rise.nodup s8') (by have := Nat.mul_le_mul_right (3 * 10 ^ 60) l1; omega)
    have B2 : (valS (look m) oth).natAbs ≤ 9 + 3 * (3 * 10 ^ 60) := Nat.le_trans (b2.val o2.rise.nodup s8') (by have := Nat.mul_le_mul_right (3 * 10 ^ 60) l2; omega)
    have v1 : Sml (valS (look m) one) := sml_of' B1 (by decide)
    have v2 : Sml (valS (look m) oth) := sml_of' B2 (by decide)
    have vx : Sml (look m x) := sml_of' (look_b s8' x) (by decide)
    have vs : Sml (shr one.2 x) := sml_of' (b1.2 x) (by decide)
    refine XS.x_I (XS.mul_ok smlb v1) ?_
    walk_at "go"
    refine ⟨XS.sz (by simp), fun q2 hq2 => ?_⟩
    obtain ⟨e13', h13⟩ := XS.newly (o := HO.tup _) hq2
    generalize hH13 : upd _ q2 _ = H13 at e13' h13 ⊢
    walk_at "go"
    refine ⟨XS.sz (by simp), fun rl hrl => ?_⟩
    obtain ⟨e14, h14⟩ := XS.newly (o := HO.lst _) hrl
    generalize hH14 : upd _ rl _ = H14 at e14 h14 ⊢
    have E914 := e10.trans (e11.trans (e12.trans (e13'.trans e14)))
    walk_at "go"
    refine XS.x_tyL' (XS.x_tyL h14) ?_
    walk_at "go"
    refine ⟨_, one, x, rfl, Dp.same E914 _ _ d1a, by omega, fun r3 H15 e15' d15 => ?_⟩
    walk_at "go"
    refine ⟨d, _, rfl, getAt (e15' _ _ (E914 _ _ h9)) ((hmn x).mpr hxm), ?_⟩
    refine XS.x_I (XS.mul_ok vs vx) ?_
    walk_at "go"
    refine ⟨XS.sz (by simp), fun q3 hq3 => ?_⟩
    obtain ⟨e16', h16⟩ := XS.newly (o := HO.tup _) hq3
    generalize hH16 : upd _ q3 _ = H16 at e16' h16 ⊢
    walk_at "go"
    have r16 := e16' _ _ (e15' _ _ h14)
    have k16 := keeps_lst (ys := [.ref q1, .ref q2] ++ [.ref q3]) r16
    refine XS.x_app r16 (szl (by simp)) ?_
    have s17 : Same H9 (upd H16 rl (.lst ([.ref q1, .ref q2] ++ [.ref q3]))) := XS.same_mut (E914.trans (e15'.trans e16')) (XS.none_of (e10.trans (e11.trans (e12.trans e13'))) hrl)
    have L17 : (upd H16 rl (.lst ([.ref q1, .ref q2] ++ [.ref q3]))) rl = some (.lst [.ref q1, .ref q2, .ref q3]) := upd_same
    generalize hH17 : upd H16 rl _ = H17 at s17 L17 k16 ⊢
    walk_at "go"
    refine XS.x_tyL' (XS.x_tyL L17) ?_
    walk_at "go"
    refine ⟨_, _, one, oth, x, rfl, Dp.same s17 _ _ d1a, Dp.same s17 _ _ d2a, o1.rise.nodup, by omega, sml1, sml2, fun r4 H18 e18 d18 => ?_⟩
    walk_at "go"
    refine ⟨d, _, rfl, getAt (e18 _ _ (s17 _ _ h9)) ((hmn x).mpr hxm), ?_⟩
    refine XS.x_I (XS.mul_ok vs vx) ?_
    walk_at "go"
    refine XS.x_I (XS.mul_ok vs v2) ?_
    walk_at "go"
    refine ⟨XS.sz (by simp), fun q4 hq4 => ?_⟩
    obtain ⟨e19, h19⟩ := XS.newly (o := HO.tup _) hq4
    generalize hH19 : upd _ q4 _ = H19 at e19 h19 ⊢
    walk_at "go"
    have r19 := e19 _ _ (e18 _ _ L17)
    have k19 := keeps_lst (ys := [.ref q1, .ref q2, .ref q3] ++ [.ref q4]) r19
    refine XS.x_app r19 (szl (by simp)) ?_
    have s20 : Same H9 (upd H19 rl (.lst ([.ref q1, .ref q2, .ref q3] ++ [.ref q4]))) := XS.same_mut (s17.trans (e18.trans e19)) (XS.none_of (e10.trans (e11.trans (e12.trans e13'))) hrl)
    have L20 : (upd H19 rl (.lst ([.ref q1, .ref q2, .ref q3] ++ [.ref q4]))) rl = some (.lst [.ref q1, .ref q2, .ref q3, .ref q4]) := upd_same
    generalize hH20 : upd H19 rl _ = H20 at s20 L20 k19 ⊢
    have K1 : XS.Keeps H17 H20 := (e18.trans e19).keeps.trans k19
    have K2 : XS.Keeps H16 H20 := k16.trans K1
    have row1 : Dp K H20 (.ref q1) (rowD (addS one oth, valS (look m) one + valS (look m) oth)) :=
      Dp.keeps (((e12.trans (e13'.trans (e14.trans (e15'.trans e16')))).keeps).trans K2) _ _ (im_row _) (Dp.mkRow (r := (addS one oth, valS (look m) one + valS (look m) oth)) (SqT.of h11) (Dp.same e11 _ _ d10))
    have row2 : Dp K H20 (.ref q2) (rowD (timS by3 one, by3 * valS (look m) one)) :=
      Dp.keeps (((e14.trans (e15'.trans e16')).keeps).trans K2) _ _ (im_row _) (Dp.mkRow (r := (timS by3 one, by3 * valS (look m) one)) (SqT.of h13) (Dp.same e13' _ _ d12))
    have row3 : Dp K H20 (.ref q3) (rowD (woS one x, valS (look m) one - shr one.2 x * look m x)) :=
      Dp.keeps K2 _ _ (im_row _) (Dp.mkRow (r := (woS one x, valS (look m) one - shr one.2 x * look m x)) (SqT.of h16) (Dp.same e16' _ _ d15))
    have row4 : Dp K H20 (.ref q4) (rowD (putS one x oth, valS (look m) one - shr one.2 x * look m x + shr one.2 x * valS (look m) oth)) :=
      Dp.keeps k19 _ _ (im_row _) (Dp.mkRow (r := (putS one x oth, valS (look m) one - shr one.2 x * look m x + shr one.2 x * valS (look m) oth)) (SqT.of h19) (Dp.same e19 _ _ d18))
    have rows : DpAll K H20 [.ref q1, .ref q2, .ref q3, .ref q4] ([(addS one oth, valS (look m) one + valS (look m) oth), (timS by3 one, by3 * valS (look m) one), (woS one x, valS (look m) one - shr one.2 x * look m x),
      (putS one x oth, valS (look m) one - shr one.2 x * look m x + shr one.2 x * valS (look m) oth)].map rowD) := .cons row1 (.cons row2 (.cons row3 (.cons row4 .nil)))
    have good : ∀ r ∈ [(addS one oth, valS (look m) one + valS (look m) oth), (timS by3 one, by3 * valS (look m) one), (woS one x, valS (look m) one - shr one.2 x * look m x),
        (putS one x oth, valS (look m) one - shr one.2 x * look m x + shr one.2 x * valS (look m) oth)], valS (look m) r.1 = r.2 ∧ Norm r.1.2 ∧ SmlS r.1 ∧ ∀ p ∈ r.1.2, p.1 ∈ nm := by
      have in1 : ∀ {y}, y ∈ one.2.map (·.1) → y ∈ nm := fun h => by obtain ⟨p, hp, rfl⟩ := List.mem_map.mp h; exact i1 p hp
      have in2 : ∀ {y}, y ∈ oth.2.map (·.1) → y ∈ nm := fun h => by obtain ⟨p, hp, rfl⟩ := List.mem_map.mp h; exact i2 p hp
      intro r hr
      rcases List.mem_cons.mp hr with rfl | hr
      · exact ⟨val_add _ _ _, nrm_norm _, (b1.add b2).sml (nrm_norm _).rise.nodup (by decide) (by decide), fun p hp => (add_mem (List.mem_map_of_mem hp)).elim in1 in2⟩
      rcases List.mem_cons.mp hr with rfl | hr
      · exact ⟨val_tim _ _ _, nrm_norm _, (b1.tim hb60).sml (nrm_norm _).rise.nodup (by decide) (by decide), fun p hp => in1 (tim_mem (List.mem_map_of_mem hp))⟩
      rcases List.mem_cons.mp hr with rfl | hr
      · exact ⟨val_wo _ _ _, nrm_norm _, (b1.wo x).sml (nrm_norm _).rise.nodup (by decide) (by decide), fun p hp => in1 (wo_mem (List.mem_map_of_mem hp)).1⟩
      rcases List.mem_cons.mp hr with rfl | hr
      · exact ⟨val_put _ _ _ _, nrm_norm _, (b1.put x b2).sml (nrm_norm _).rise.nodup (by decide) (by decide), fun p hp => (put_mem (List.mem_map_of_mem hp)).elim in1 in2⟩
      · cases hr
    have short : ∀ y ∈ nm, y.length ≤ 1000 := fun y hy => by
      have := (hWd y hy).2.1
      show y.cps.size ≤ 1000
      rw [Array.length_toList] at this
      omega
    have full : ∀ y ∈ nm, y.cps.toList ≠ [] := fun y hy e => by
      have := (hWd y hy).1
      rw [e] at this
      simp at this
    have N20 : H20 nl = some (.lst (nm.map V.str)) := s20 _ _ (e9 _ _ n8)
    have V20 : H20 d = some (.dK (dOf m)) := s20 _ _ h9
    have O20 : Dp K H20 (.ref t1) (sumD one) := by
      have := Dp.same s20 _ _ d1a
      exact this
    walk_at "go"
    generalize hR : [(addS one oth, valS (look m) one + valS (look m) oth), (timS by3 one, by3 * valS (look m) one), (woS one x, valS (look m) one - shr one.2 x * look m x),
        (putS one x oth, valS (look m) one - shr one.2 x * look m x + shr one.2 x * valS (look m) oth)] = R at rows good
    refine XS.x_forL (SqL.of L20) (fun i σ H' => ∃ y12 : Option V, σ = [some (.ref a), some (.ref nl), some (.ref t1), some (.ref t2), some (.int by3), some (.str x), some (.ref d), y7, some (.int (valS (look m) one)), some (.int (valS (look m) oth)), some (.int (shr one.2 x)), some (.ref rl), y12, none, none, none, none] ∧
      Same H20 H') ⟨none, rfl, Same.refl _⟩ (fun i σ H' _ ⟨_, _, e⟩ => SqL.of (e _ _ L20)) ?_ ?_
    · rintro i u σ H' hi ⟨y12, rfl, e21⟩
      obtain ⟨dd, hdd, du⟩ := (DpAll.same e21 _ _ rows).getV hi
      obtain ⟨r, hr', rfl⟩ := map_at hdd
      obtain ⟨g1, g2, g3, g4⟩ := good r (List.mem_of_getElem? hr')
      obtain ⟨ra, ru, rfl, ra1, ra2⟩ := Dp.row du
      walk_at "go"
      refine XS.x_ixT ra1 (XS.atI_get (i := 0) rfl) ?_
      walk_at "go"
      refine ⟨ru, nl, r.1, nm, rfl, ra2, SqL.of (e21 _ _ N20), g2, fun p hp => ⟨g4 p hp, full _ (g4 p hp)⟩, ?_⟩
      walk_at "go"
      refine XS.x_ixT ra1 (XS.atI_get (i := 0) rfl) ?_
      walk_at "go"
      refine ⟨ru, d, r.1, m, rfl, ra2, e21 _ _ V20, g3, s8, fun p hp => short _ (g4 p hp), fun _ => ?_, fun ⟨p, hp, hn⟩ => absurd ((hmn _).mpr (g4 p hp)) hn⟩
      rw [g1]
      walk_at "go"
      refine XS.x_ixT ra1 (XS.atI_get (i := 1) rfl) ?_
      walk_at "go"
      refine ⟨_, _, .int r.2, 7, rfl, rfl, .int _, .int _, .int _, ?_⟩
      walk_at "go"
      exact ⟨_, rfl, e21⟩
    · rintro σ H21 ⟨y12, rfl, e21⟩
      have O21 := Dp.same e21 _ _ O20
      walk_at "go"
      refine XS.x_ixL (SqL.of (e21 _ _ L20)) (XS.atI_get (i := 2) rfl) ?_
      walk_at "go"
      obtain ⟨ra, ru, era, ra1, ra2⟩ := Dp.row (Dp.same e21 _ _ row3)
      cases era
      refine XS.x_ixT ra1 (XS.atI_get (i := 0) rfl) ?_
      walk_at "go"
      obtain ⟨wa, wb, ws, rfl, w1, w2, w3⟩ := ra2.sum
      refine XS.x_ixT w1 (XS.atI_get (i := 1) rfl) ?_
      have l4 := w3.len
      rw [List.length_map] at l4
      have l5 : (woS one x).2.length ≤ 3 := Nat.le_trans (Nat.le_trans (nrm_len _) (List.length_filter_le _ _)) l1
      refine XS.x_lcT (K := K) (woS one x).2 ws (fun p => decide (p.1 = x)) prT w2 l4 (by omega) (fun _ => im_pair _) (fun i p u hi hu' H22 Yes No e22 yes no => ?_) (fun l H22 acc hl e22 hacc had => ?_)
      · obtain ⟨b, rfl, hb⟩ := (pair_at w3 hi hu').pair
        walk_at "go"
        refine ⟨rfl, ?_⟩
        walk_at "go"
        refine XS.x_ixT (e22.seqT hb) (XS.atI_get (i := 0) rfl) ?_
        walk_at "go"
        refine XS.x_d (fun c => ?_) (fun c => ?_)
        · walk_at "go"
          exact yes _ _ (Same.refl _) (by simpa using c) (Dp.mkPair (e22.seqT hb))
        · exact no _ (Same.refl _) (by simpa using c)
      have e23 : ((woS one x).2.filter fun p => decide (p.1 = x)) = [] := List.filter_eq_nil_iff.mpr fun p hp => by
        simpa using (wo_mem (List.mem_map_of_mem hp)).2
      rw [e23] at had
      walk_at "go"
      refine ⟨XS.sz (by simp), fun t hT => ?_⟩
      obtain ⟨e24, h24⟩ := XS.newly (o := HO.lst _) hT
      generalize hH24 : upd _ t _ = H24 at e24 h24 ⊢
      refine XS.x_neD (.lst (SqL.of (e24 _ _ hacc)) (DpAll.same e24 _ _ had)) (.lst (SqL.of h24) .nil) flt_nil flt_nil ?_
      rw [eqv_nil]
      walk_at "go"
      refine XS.x_no rfl ?_
      walk_at "go"
      have e25 := e21.trans (e22.trans e24)
      refine ⟨_, d, one, m, rfl, Dp.same e25 _ _ O20, e25 _ _ V20, sml1, s8, fun p hp => short _ (i1 p hp), fun _ => ?_, fun ⟨p, hp, hn⟩ => absurd ((hmn _).mpr (i1 p hp)) hn⟩
      walk_at "go"
      refine ⟨_, _, .int (valS (look m) one), 7, rfl, rfl, .int _, .int _, .int _, ?_⟩
      walk_at "go"
      refine ⟨d, dOf m, rfl, .inl (e25 _ _ V20), fun g hg => ?_⟩
      obtain ⟨e26, h26⟩ := XS.newly (o := HO.dK _) hg
      generalize hH26 : upd _ g _ = H26 at e26 h26 ⊢
      have e27 := e25.trans e26
      walk_at "go"
      refine XS.x_cut (fun σ H' => ∃ (m' : List Pr), σ = [some (.ref a), some (.ref nl), some (.ref t1), some (.ref t2), some (.int by3), some (.str x), some (.ref d), y7, some (.int (valS (look m) one)), some (.int (valS (look m) oth)), some (.int (shr one.2 x)), some (.ref rl), y12, some (.ref g), none, none, none] ∧
        Same H20 H' ∧ H' g = some (.dK (dOf m')) ∧ (m'.map (·.1)).Nodup ∧ (∀ q ∈ m', Sml q.2) ∧ ∀ y ∈ nm, y ≠ x → y ∈ m'.map (·.1)) ?_ ?_
      · walk_at "go"
        refine ⟨a, ns, 9, rfl, by decide, (e16.trans (e8.trans (e9.trans (s20.trans e27)))).seq hS, ?_⟩
        walk_at "go"
        refine XS.x_d (fun c => ?_) (fun c => ?_)
        · walk_at "go"
          refine ⟨g, rfl, isD_of h26, ?_⟩
          walk_at "go"
          refine ⟨dOf m, Sum.inr x, V.int (look m x), h26, rfl, ?_, ?_⟩
          · rw [dOf_val, getP_look ((hmn x).mpr hxm)]
            rfl
          · rw [dOf_drop]
            exact ⟨_, rfl, XS.same_mut e27 (XS.none_of e25 hg), upd_same, dropP_nd x (by rw [m4]; exact hNd), fun q hq => s8 q (List.mem_filter.mp hq).1, fun y hy hne => (dropP_names m x y).mpr ⟨(hmn y).mpr hy, hne⟩⟩
        · walk_at "go"
          exact ⟨m, rfl, e27, h26, by rw [m4]; exact hNd, s8, fun y hy _ => (hmn y).mpr hy⟩
      · rintro σ H28 ⟨m', rfl, e28, h28, nd', sm', in'⟩
        walk_at "go"
        refine ⟨g, dOf m', rfl, .inl h28, fun f hf => ?_⟩
        obtain ⟨e29, h29⟩ := XS.newly (o := HO.dK _) hf
        generalize hH29 : upd _ f _ = H29 at e29 h29 ⊢
        walk_at "go"
        have e30 := e28.trans e29
        refine XS.x_cut (fun σ H' => σ = [some (.ref a), some (.ref nl), some (.ref t1), some (.ref t2), some (.int by3), some (.str x), some (.ref d), y7, some (.int (valS (look m) one)), some (.int (valS (look m) oth)), some (.int (shr one.2 x)), some (.ref rl), y12, some (.ref g), some (.ref f),
          some (.str (if one.2.all (fun p => decide (p.1 ∈ m'.map (·.1))) then "" else "no value")), none] ∧ Same H29 H') ?_ ?_
        · walk_at "go"
          refine ⟨XS.sz (by simp), fun t5 ht5 => ?_⟩
          obtain ⟨e31, h31⟩ := XS.newly (o := HO.lst _) ht5
          generalize hH31 : upd _ t5 _ = H31 at e31 h31 ⊢
          walk_at "go"
          refine XS.x_dn (fun c => ?_) (fun c => ?_)
          · walk_at "go"
            refine ⟨g, _, rfl, getAny (e31 _ _ (e29 _ _ h28)), ?_⟩
            rw [Option.isSome_map, getP_some]
            by_cases c2 : x ∈ m'.map (·.1)
            · have ea : (one.2.all fun p => decide (p.1 ∈ m'.map (·.1))) = true := List.all_eq_true.mpr fun p hp => decide_eq_true (by
                by_cases c3 : p.1 = x
                · rw [c3]; exact c2
                · exact in' _ (i1 p hp) c3)
              rw [decide_eq_true c2, ea]
              walk_at "go"
              refine .inr ⟨_, rfl, ?_⟩
              refine XS.x_ixL (SqL.of h31) (XS.atI_get (i := 0) rfl) ?_
              exact ⟨rfl, e31⟩
            · have ea : (one.2.all fun p => decide (p.1 ∈ m'.map (·.1))) = false := by
                obtain ⟨p, hp, ep⟩ := List.mem_map.mp ((o1.mem_iff x).mpr c)
                exact Bool.eq_false_iff.mpr fun t => c2 (by rw [← ep]; exact of_decide_eq_true (List.all_eq_true.mp t p hp))
              rw [decide_eq_false c2, ea]
              walk_at "go"
              refine .inr ⟨_, rfl, ?_⟩
              refine XS.x_ixL (SqL.of h31) (XS.atI_get (i := 1) rfl) ?_
              exact ⟨rfl, e31⟩
          · have ea : (one.2.all fun p => decide (p.1 ∈ m'.map (·.1))) = true := List.all_eq_true.mpr fun p hp => decide_eq_true (in' _ (i1 p hp) fun e => (o1.mem_iff x).mp (by rw [← e]; exact List.mem_map_of_mem hp) c)
            rw [ea]
            walk_at "go"
            refine .inr ⟨_, rfl, ?_⟩
            refine XS.x_ixL (SqL.of h31) (XS.atI_get (i := 0) rfl) ?_
            exact ⟨rfl, e31⟩
        · rintro σ H31 ⟨rfl, e31⟩
          walk_at "go"
          have e32 := e30.trans e31
          refine ⟨_, f, one, m', rfl, Dp.same e32 _ _ O20, e31 _ _ h29, sml1, sm', fun p hp => short _ (i1 p hp), fun H33 e33 => ?_⟩
          walk_at "go"
          refine XS.x_no (by simp) ?_
          walk_at "go"
          refine ⟨f, g, dOf m', dOf m', rfl, rfl, e33 _ _ (e31 _ _ h29), e33 _ _ (e31 _ _ (e29 _ _ h28)), rfl, dOf_self nd', ?_⟩
          walk_at "go"
          have e34 := e32.trans e33
          refine ⟨a, ns, 1, rfl, by decide, (e16.trans (e8.trans (e9.trans (s20.trans e34)))).seq hS, ?_⟩
          walk_at "go"
          refine ⟨nl, nm.map V.str, rfl, SqL.of (e34 _ _ N20), fun p5 hp5 => ?_⟩
          rw [cut_take3, ← List.map_take]
          obtain ⟨e35, h35⟩ := XS.newly (o := HO.lst _) hp5
          generalize hH35 : upd _ p5 _ = H35 at e35 h35 ⊢
          walk_at "go"
          refine ⟨cell ns 1, 3, p5, nm.take 3, rfl, SqL.of h35, hNd3, by rw [List.length_take]; omega, by decide, by decide, fun t6 H36 e36 d36 => ?_⟩
          rw [hone] at d36
          walk_at "go"
          refine ⟨_, _, sumD one, 7, rfl, rfl, Dp.same (e34.trans (e35.trans e36)) _ _ O20, d36, al_sum (n := 4) (by omega), ?_⟩
          walk_at "go"
          exact q _
end

theorem all_mk {l : PySem.W.OpenLaw} {w : World} {K : PySem.W.Frag} {h : Heap} {mg : Str → Option Value} {fa f1 f2 f3 f4 f5 f6 f7 f8 f9 f10 f11 f12 f13 f14 f15 f16 f17 f18 eS eV eP eN : Addr} (X : K.In h) (G : h.Ns mainGlobals mg) (hfa : mg "law" = some (.ref fa))
    {od1 an1 od2 an2 od3 an3 od4 an4 od5 an5 od6 an6 od7 an7 od8 an8 od9 an9 od10 an10 od11 an11 od12 an12 od13 an13 od14 an14 od15 an15 od16 an16 od17 an17 od18 an18 : Option Addr} {sl1 sl2 sl3 sl4 sl5 sl6 sl7 sl8 sl9 sl10 sl11 sl12 sl13 sl14 sl15 sl16 sl17 sl18 : Array (Option Value)} {oc1 kV1 dc1 pm1 cd1 ct1 oc2 kV2 dc2 pm2 cd2 ct2 oc3 kV3 dc3 pm3 cd3 ct3 oc4 kV4 dc4 pm4 cd4 ct4 oc5 kV5 dc5 pm5 cd5 ct5 oc6 kV6 dc6 pm6 cd6 ct6 oc7 kV7 dc7 pm7 cd7 ct7 oc8 kV8 dc8 pm8 cd8 ct8 oc9 kV9 dc9 pm9 cd9 ct9 oc10 kV10 dc10 pm10 cd10 ct10 oc11 kV11 dc11 pm11 cd11 ct11 oc12 kV12 dc12 pm12 cd12 ct12 oc13 kV13 dc13 pm13 cd13 ct13 oc14 kV14 dc14 pm14 cd14 ct14 oc15 kV15 dc15 pm15 cd15 ct15 oc16 kV16 dc16 pm16 cd16 ct16 oc17 kV17 dc17 pm17 cd17 ct17 oc18 kV18 dc18 pm18 cd18 ct18 : Value}
    (a1 : PySem.W.nsIn K mainGlobals "made" = some (some (.ref f1))) (l1 : K.lookup f1 = some ⟨oc1, od1, .func (PySem.W.fnOf "made" "made" (defArgs s_made) (defBody s_made) (defScope s_made) .none kV1 dc1 pm1 an1 cd1 ct1), sl1⟩) (c1 : PySem.W.codeIn K cd1 "made" = true) (k1 : PySem.W.keepIn K (.ref f1) = true)
    (a2 : PySem.W.nsIn K mainGlobals "share" = some (some (.ref f2))) (l2 : K.lookup f2 = some ⟨oc2, od2, .func (PySem.W.fnOf "share" "share" (defArgs s_share) (defBody s_share) (defScope s_share) .none kV2 dc2 pm2 an2 cd2 ct2), sl2⟩) (c2 : PySem.W.codeIn K cd2 "share" = true) (k2 : PySem.W.keepIn K (.ref f2) = true)
    (a3 : PySem.W.nsIn K mainGlobals "added" = some (some (.ref f3))) (l3 : K.lookup f3 = some ⟨oc3, od3, .func (PySem.W.fnOf "added" "added" (defArgs s_added) (defBody s_added) (defScope s_added) .none kV3 dc3 pm3 an3 cd3 ct3), sl3⟩) (c3 : PySem.W.codeIn K cd3 "added" = true) (k3 : PySem.W.keepIn K (.ref f3) = true)
    (a4 : PySem.W.nsIn K mainGlobals "times" = some (some (.ref f4))) (l4 : K.lookup f4 = some ⟨oc4, od4, .func (PySem.W.fnOf "times" "times" (defArgs s_times) (defBody s_times) (defScope s_times) .none kV4 dc4 pm4 an4 cd4 ct4), sl4⟩) (c4 : PySem.W.codeIn K cd4 "times" = true) (k4 : PySem.W.keepIn K (.ref f4) = true)
    (a5 : PySem.W.nsIn K mainGlobals "without" = some (some (.ref f5))) (l5 : K.lookup f5 = some ⟨oc5, od5, .func (PySem.W.fnOf "without" "without" (defArgs s_without) (defBody s_without) (defScope s_without) .none kV5 dc5 pm5 an5 cd5 ct5), sl5⟩) (c5 : PySem.W.codeIn K cd5 "without" = true) (k5 : PySem.W.keepIn K (.ref f5) = true)
    (a6 : PySem.W.nsIn K mainGlobals "put_in" = some (some (.ref f6))) (l6 : K.lookup f6 = some ⟨oc6, od6, .func (PySem.W.fnOf "put_in" "put_in" (defArgs s_put_in) (defBody s_put_in) (defScope s_put_in) .none kV6 dc6 pm6 an6 cd6 ct6), sl6⟩) (c6 : PySem.W.codeIn K cd6 "put_in" = true) (k6 : PySem.W.keepIn K (.ref f6) = true)
    (a7 : PySem.W.nsIn K mainGlobals "value" = some (some (.ref f7))) (l7 : K.lookup f7 = some ⟨oc7, od7, .func (PySem.W.fnOf "value" "value" (defArgs s_value) (defBody s_value) (defScope s_value) .none kV7 dc7 pm7 an7 cd7 ct7), sl7⟩) (c7 : PySem.W.codeIn K cd7 "value" = true) (k7 : PySem.W.keepIn K (.ref f7) = true)
    (a8 : PySem.W.nsIn K mainGlobals "_law_cell_at" = some (some (.ref f8))) (l8 : K.lookup f8 = some ⟨oc8, od8, .func (PySem.W.fnOf "_law_cell_at" "_law_cell_at" (defArgs s__law_cell_at) (defBody s__law_cell_at) (defScope s__law_cell_at) .none kV8 dc8 pm8 an8 cd8 ct8), sl8⟩) (c8 : PySem.W.codeIn K cd8 "_law_cell_at" = true) (k8 : PySem.W.keepIn K (.ref f8) = true)
    (a9 : PySem.W.nsIn K mainGlobals "_law_whole" = some (some (.ref f9))) (l9 : K.lookup f9 = some ⟨oc9, od9, .func (PySem.W.fnOf "_law_whole" "_law_whole" (defArgs s__law_whole) (defBody s__law_whole) (defScope s__law_whole) .none kV9 dc9 pm9 an9 cd9 ct9), sl9⟩) (c9 : PySem.W.codeIn K cd9 "_law_whole" = true) (k9 : PySem.W.keepIn K (.ref f9) = true)
    (a10 : PySem.W.nsIn K mainGlobals "_law_names_by" = some (some (.ref f10))) (l10 : K.lookup f10 = some ⟨oc10, od10, .func (PySem.W.fnOf "_law_names_by" "_law_names_by" (defArgs s__law_names_by) (defBody s__law_names_by) (defScope s__law_names_by) .none kV10 dc10 pm10 an10 cd10 ct10), sl10⟩) (c10 : PySem.W.codeIn K cd10 "_law_names_by" = true) (k10 : PySem.W.keepIn K (.ref f10) = true)
    (a11 : PySem.W.nsIn K mainGlobals "_law_sum_by" = some (some (.ref f11))) (l11 : K.lookup f11 = some ⟨oc11, od11, .func (PySem.W.fnOf "_law_sum_by" "_law_sum_by" (defArgs s__law_sum_by) (defBody s__law_sum_by) (defScope s__law_sum_by) .none kV11 dc11 pm11 an11 cd11 ct11), sl11⟩) (c11 : PySem.W.codeIn K cd11 "_law_sum_by" = true) (k11 : PySem.W.keepIn K (.ref f11) = true)
    (a12 : PySem.W.nsIn K mainGlobals "_law_big_by" = some (some (.ref f12))) (l12 : K.lookup f12 = some ⟨oc12, od12, .func (PySem.W.fnOf "_law_big_by" "_law_big_by" (defArgs s__law_big_by) (defBody s__law_big_by) (defScope s__law_big_by) .none kV12 dc12 pm12 an12 cd12 ct12), sl12⟩) (c12 : PySem.W.codeIn K cd12 "_law_big_by" = true) (k12 : PySem.W.keepIn K (.ref f12) = true)
    (a13 : PySem.W.nsIn K mainGlobals "_law_value" = some (some (.ref f13))) (l13 : K.lookup f13 = some ⟨oc13, od13, .func (PySem.W.fnOf "_law_value" "_law_value" (defArgs s__law_value) (defBody s__law_value) (defScope s__law_value) .none kV13 dc13 pm13 an13 cd13 ct13), sl13⟩) (c13 : PySem.W.codeIn K cd13 "_law_value" = true) (k13 : PySem.W.keepIn K (.ref f13) = true)
    (a14 : PySem.W.nsIn K mainGlobals "_law_sum_is" = some (some (.ref f14))) (l14 : K.lookup f14 = some ⟨oc14, od14, .func (PySem.W.fnOf "_law_sum_is" "_law_sum_is" (defArgs s__law_sum_is) (defBody s__law_sum_is) (defScope s__law_sum_is) .none kV14 dc14 pm14 an14 cd14 ct14), sl14⟩) (c14 : PySem.W.codeIn K cd14 "_law_sum_is" = true) (k14 : PySem.W.keepIn K (.ref f14) = true)
    (a15 : PySem.W.nsIn K mainGlobals "_law_word_of" = some (some (.ref f15))) (l15 : K.lookup f15 = some ⟨oc15, od15, .func (PySem.W.fnOf "_law_word_of" "_law_word_of" (defArgs s__law_word_of) (defBody s__law_word_of) (defScope s__law_word_of) .none kV15 dc15 pm15 an15 cd15 ct15), sl15⟩) (c15 : PySem.W.codeIn K cd15 "_law_word_of" = true) (k15 : PySem.W.keepIn K (.ref f15) = true)
    (a16 : PySem.W.nsIn K mainGlobals "_law_alike" = some (some (.ref f16))) (l16 : K.lookup f16 = some ⟨oc16, od16, .func (PySem.W.fnOf "_law_alike" "_law_alike" (defArgs s__law_alike) (defBody s__law_alike) (defScope s__law_alike) .none kV16 dc16 pm16 an16 cd16 ct16), sl16⟩) (c16 : PySem.W.codeIn K cd16 "_law_alike" = true) (k16 : PySem.W.keepIn K (.ref f16) = true)
    (a17 : PySem.W.nsIn K mainGlobals "_law_refused" = some (some (.ref f17))) (l17 : K.lookup f17 = some ⟨oc17, od17, .func (PySem.W.fnOf "_law_refused" "_law_refused" (defArgs s__law_refused) (defBody s__law_refused) (defScope s__law_refused) .none kV17 dc17 pm17 an17 cd17 ct17), sl17⟩) (c17 : PySem.W.codeIn K cd17 "_law_refused" = true) (k17 : PySem.W.keepIn K (.ref f17) = true)
    (a18 : PySem.W.nsIn K mainGlobals "law" = some (some (.ref f18))) (l18 : K.lookup f18 = some ⟨oc18, od18, .func (PySem.W.fnOf "law" "law" (defArgs s_law) (defBody s_law) (defScope s_law) .none kV18 dc18 pm18 an18 cd18 ct18), sl18⟩) (c18 : PySem.W.codeIn K cd18 "law" = true) (k18 : PySem.W.keepIn K (.ref f18) = true)
    (z_ValueError : PySem.W.nsIn K mainGlobals "ValueError" = some none)
    (z_len : PySem.W.nsIn K mainGlobals "len" = some none)
    (z_isinstance : PySem.W.nsIn K mainGlobals "isinstance" = some none)
    (z_int : PySem.W.nsIn K mainGlobals "int" = some none)
    (z_str : PySem.W.nsIn K mainGlobals "str" = some none)
    (z_bool : PySem.W.nsIn K mainGlobals "bool" = some none)
    (z_list : PySem.W.nsIn K mainGlobals "list" = some none)
    (z_tuple : PySem.W.nsIn K mainGlobals "tuple" = some none)
    (z_dict : PySem.W.nsIn K mainGlobals "dict" = some none)
    (z_set : PySem.W.nsIn K mainGlobals "set" = some none)
    (z_range : PySem.W.nsIn K mainGlobals "range" = some none)
    (z_sorted : PySem.W.nsIn K mainGlobals "sorted" = some none)
    (z_sum : PySem.W.nsIn K mainGlobals "sum" = some none)
    (ggS : PySem.W.nsIn K mainGlobals "SomeError" = some (some (.ref eS)))
    (ggV : PySem.W.nsIn K mainGlobals "NoValue" = some (some (.ref eV)))
    (ggP : PySem.W.nsIn K mainGlobals "NotPlain" = some (some (.ref eP)))
    (ggN : PySem.W.nsIn K mainGlobals "NoNote" = some (some (.ref eN)))
    (es1 : PySem.W.specialIn K (.builtin "object.__class__") "__get__" = some (some (.builtin "getset_descriptor.__get__")))
    (es2 : PySem.W.takesIn K (.builtin "object.__class__") = some true)
    (ebS : PySem.W.subIn K (.ref eS) (.type "BaseException") = some true)
    (edS : PySem.W.hasDictIn K eS = true)
    (etS : PySem.W.typeIn K (.ref eS) = some (.type "type"))
    (exV : PySem.W.excIn K eV [.type "ValueError", .type "Exception", .type "BaseException", .type "object"] "ValueError.__new__" = true)
    (ekV : PySem.W.keepIn K (.ref eV) = true)
    (ebV : PySem.W.subIn K (.ref eV) (.type "BaseException") = some true)
    (etV : PySem.W.typeIn K (.ref eV) = some (.type "type"))
    (edV : PySem.W.hasDictIn K eV = true)
    (egaV : PySem.W.findIn K (.ref eV) "__getattribute__" = some (some (.builtin "BaseException.__getattribute__")))
    (egtV : PySem.W.findIn K (.ref eV) "__getattr__" = some none)
    (eclV : PySem.W.findIn K (.ref eV) "__class__" = some (some (.builtin "object.__class__")))
    (emoV : PySem.W.mroIn K eV (.type "object") = some true)
    (eveV : PySem.W.subIn K (.ref eV) (.type "ValueError") = some true)
    (emeV : PySem.W.subIn K (.ref eV) (.ref eV) = some true)
    (exP : PySem.W.excIn K eP [.type "ValueError", .type "Exception", .type "BaseException", .type "object"] "ValueError.__new__" = true)
    (ekP : PySem.W.keepIn K (.ref eP) = true)
    (ebP : PySem.W.subIn K (.ref eP) (.type "BaseException") = some true)
    (etP : PySem.W.typeIn K (.ref eP) = some (.type "type"))
    (edP : PySem.W.hasDictIn K eP = true)
    (egaP : PySem.W.findIn K (.ref eP) "__getattribute__" = some (some (.builtin "BaseException.__getattribute__")))
    (egtP : PySem.W.findIn K (.ref eP) "__getattr__" = some none)
    (eclP : PySem.W.findIn K (.ref eP) "__class__" = some (some (.builtin "object.__class__")))
    (emoP : PySem.W.mroIn K eP (.type "object") = some true)
    (eveP : PySem.W.subIn K (.ref eP) (.type "ValueError") = some true)
    (emeP : PySem.W.subIn K (.ref eP) (.ref eP) = some true)
    (exN : PySem.W.excIn K eN [.type "ValueError", .type "Exception", .type "BaseException", .type "object"] "ValueError.__new__" = true)
    (ekN : PySem.W.keepIn K (.ref eN) = true)
    (ebN : PySem.W.subIn K (.ref eN) (.type "BaseException") = some true)
    (etN : PySem.W.typeIn K (.ref eN) = some (.type "type"))
    (edN : PySem.W.hasDictIn K eN = true)
    (egaN : PySem.W.findIn K (.ref eN) "__getattribute__" = some (some (.builtin "BaseException.__getattribute__")))
    (egtN : PySem.W.findIn K (.ref eN) "__getattr__" = some none)
    (eclN : PySem.W.findIn K (.ref eN) "__class__" = some (some (.builtin "object.__class__")))
    (emoN : PySem.W.mroIn K eN (.type "object") = some true)
    (eveN : PySem.W.subIn K (.ref eN) (.type "ValueError") = some true)
    (emeN : PySem.W.subIn K (.ref eN) (.ref eN) = some true)
    (esuV : PySem.W.subIn K (.ref eV) (.ref eS) = some true)
    (esuP : PySem.W.subIn K (.ref eP) (.ref eS) = some true)
    (esuN : PySem.W.subIn K (.ref eN) (.ref eS) = some true)
    (esuVP : PySem.W.subIn K (.ref eV) (.ref eP) = some false)
    (esuVN : PySem.W.subIn K (.ref eV) (.ref eN) = some false)
    (esuPV : PySem.W.subIn K (.ref eP) (.ref eV) = some false)
    (esuPN : PySem.W.subIn K (.ref eP) (.ref eN) = some false)
    (esuNV : PySem.W.subIn K (.ref eN) (.ref eV) = some false)
    (esuNP : PySem.W.subIn K (.ref eN) (.ref eP) = some false)
    (eqVP : (Value.ref eV == Value.ref eP) = false)
    (eqVN : (Value.ref eV == Value.ref eN) = false)
    (eqPV : (Value.ref eP == Value.ref eV) = false)
    (eqPN : (Value.ref eP == Value.ref eN) = false)
    (eqNV : (Value.ref eN == Value.ref eV) = false)
    (eqNP : (Value.ref eN == Value.ref eP) = false)
    : ∃ fd : FuncData, (∀ (s : Shared) (v : Value), BindsTo s fd ⟨[v], []⟩ [("_law_script", v)]) ∧ ∀ base : Heap, K.In base → base.Ns mainGlobals mg → FnOk l.prog w K mg base CX0 10 fa fd ["_law_script"] (sp_law K) := by
  have e := hfa.symm.trans (PySem.W.mg_of X G a18)
  cases e
  have Z : Bl mg := ⟨PySem.W.mg_none_of X G z_ValueError, PySem.W.mg_none_of X G z_len, PySem.W.mg_none_of X G z_isinstance, PySem.W.mg_none_of X G z_int, PySem.W.mg_none_of X G z_str, PySem.W.mg_none_of X G z_bool, PySem.W.mg_none_of X G z_list, PySem.W.mg_none_of X G z_tuple, PySem.W.mg_none_of X G z_dict, PySem.W.mg_none_of X G z_set, PySem.W.mg_none_of X G z_range, PySem.W.mg_none_of X G z_sorted, PySem.W.mg_none_of X G z_sum⟩
  have Y : Er K mg eS eV eP eN := er_mk (PySem.W.mg_of X G ggS) (PySem.W.mg_of X G ggV) (PySem.W.mg_of X G ggP) (PySem.W.mg_of X G ggN) es1 es2 ebS edS etS ⟨exV, ekV, ebV, etV, edV, egaV, egtV, eclV, emoV, eveV, emeV⟩ ⟨exP, ekP, ebP, etP, edP, egaP, egtP, eclP, emoP, eveP, emeP⟩ ⟨exN, ekN, ebN, etN, edN, egaN, egtN, eclN, emoN, eveN, emeN⟩ esuV esuP esuN esuVP esuVN esuPV esuPN esuNV esuNP eqVP eqVN eqPV eqPN eqNV eqNP
  have F_made : FunAt K mg "made" s_made P_made := ⟨_, _, fun_mk (st := s_made) l1 c1 k1, PySem.W.mg_of X G a1, (fun_mk (st := s_made) l1 c1 k1).binds (ps := P_made) fun _ _ _ _ _ _ us hl => match us, hl with | [_, _], _ => rfl⟩
  have F_share : FunAt K mg "share" s_share P_share := ⟨_, _, fun_mk (st := s_share) l2 c2 k2, PySem.W.mg_of X G a2, (fun_mk (st := s_share) l2 c2 k2).binds (ps := P_share) fun _ _ _ _ _ _ us hl => match us, hl with | [_, _], _ => rfl⟩
  have F_added : FunAt K mg "added" s_added P_added := ⟨_, _, fun_mk (st := s_added) l3 c3 k3, PySem.W.mg_of X G a3, (fun_mk (st := s_added) l3 c3 k3).binds (ps := P_added) fun _ _ _ _ _ _ us hl => match us, hl with | [_, _], _ => rfl⟩
  have F_times : FunAt K mg "times" s_times P_times := ⟨_, _, fun_mk (st := s_times) l4 c4 k4, PySem.W.mg_of X G a4, (fun_mk (st := s_times) l4 c4 k4).binds (ps := P_times) fun _ _ _ _ _ _ us hl => match us, hl with | [_, _], _ => rfl⟩
  have F_without : FunAt K mg "without" s_without P_without := ⟨_, _, fun_mk (st := s_without) l5 c5 k5, PySem.W.mg_of X G a5, (fun_mk (st := s_without) l5 c5 k5).binds (ps := P_without) fun _ _ _ _ _ _ us hl => match us, hl with | [_, _], _ => rfl⟩
  have F_put_in : FunAt K mg "put_in" s_put_in P_put_in := ⟨_, _, fun_mk (st := s_put_in) l6 c6 k6, PySem.W.mg_of X G a6, (fun_mk (st := s_put_in) l6 c6 k6).binds (ps := P_put_in) fun _ _ _ _ _ _ us hl => match us, hl with | [_, _, _], _ => rfl⟩
  have F_value : FunAt K mg "value" s_value P_value := ⟨_, _, fun_mk (st := s_value) l7 c7 k7, PySem.W.mg_of X G a7, (fun_mk (st := s_value) l7 c7 k7).binds (ps := P_value) fun _ _ _ _ _ _ us hl => match us, hl with | [_, _], _ => rfl⟩
  have F__law_cell_at : FunAt K mg "_law_cell_at" s__law_cell_at P__law_cell_at := ⟨_, _, fun_mk (st := s__law_cell_at) l8 c8 k8, PySem.W.mg_of X G a8, (fun_mk (st := s__law_cell_at) l8 c8 k8).binds (ps := P__law_cell_at) fun _ _ _ _ _ _ us hl => match us, hl with | [_, _], _ => rfl⟩
  have F__law_whole : FunAt K mg "_law_whole" s__law_whole P__law_whole := ⟨_, _, fun_mk (st := s__law_whole) l9 c9 k9, PySem.W.mg_of X G a9, (fun_mk (st := s__law_whole) l9 c9 k9).binds (ps := P__law_whole) fun _ _ _ _ _ _ us hl => match us, hl with | [_], _ => rfl⟩
  have F__law_names_by : FunAt K mg "_law_names_by" s__law_names_by P__law_names_by := ⟨_, _, fun_mk (st := s__law_names_by) l10 c10 k10, PySem.W.mg_of X G a10, (fun_mk (st := s__law_names_by) l10 c10 k10).binds (ps := P__law_names_by) fun _ _ _ _ _ _ us hl => match us, hl with | [_], _ => rfl⟩
  have F__law_sum_by : FunAt K mg "_law_sum_by" s__law_sum_by P__law_sum_by := ⟨_, _, fun_mk (st := s__law_sum_by) l11 c11 k11, PySem.W.mg_of X G a11, (fun_mk (st := s__law_sum_by) l11 c11 k11).binds (ps := P__law_sum_by) fun _ _ _ _ _ _ us hl => match us, hl with | [_, _, _], _ => rfl⟩
  have F__law_big_by : FunAt K mg "_law_big_by" s__law_big_by P__law_big_by := ⟨_, _, fun_mk (st := s__law_big_by) l12 c12 k12, PySem.W.mg_of X G a12, (fun_mk (st := s__law_big_by) l12 c12 k12).binds (ps := P__law_big_by) fun _ _ _ _ _ _ us hl => match us, hl with | [_], _ => rfl⟩
  have F__law_value : FunAt K mg "_law_value" s__law_value P__law_value := ⟨_, _, fun_mk (st := s__law_value) l13 c13 k13, PySem.W.mg_of X G a13, (fun_mk (st := s__law_value) l13 c13 k13).binds (ps := P__law_value) fun _ _ _ _ _ _ us hl => match us, hl with | [_, _], _ => rfl⟩
  have F__law_sum_is : FunAt K mg "_law_sum_is" s__law_sum_is P__law_sum_is := ⟨_, _, fun_mk (st := s__law_sum_is) l14 c14 k14, PySem.W.mg_of X G a14, (fun_mk (st := s__law_sum_is) l14 c14 k14).binds (ps := P__law_sum_is) fun _ _ _ _ _ _ us hl => match us, hl with | [_, _], _ => rfl⟩
  have F__law_word_of : FunAt K mg "_law_word_of" s__law_word_of P__law_word_of := ⟨_, _, fun_mk (st := s__law_word_of) l15 c15 k15, PySem.W.mg_of X G a15, (fun_mk (st := s__law_word_of) l15 c15 k15).binds (ps := P__law_word_of) fun _ _ _ _ _ _ us hl => match us, hl with | [_], _ => rfl⟩
  have F__law_alike : FunAt K mg "_law_alike" s__law_alike P__law_alike := ⟨_, _, fun_mk (st := s__law_alike) l16 c16 k16, PySem.W.mg_of X G a16, (fun_mk (st := s__law_alike) l16 c16 k16).binds (ps := P__law_alike) fun _ _ _ _ _ _ us hl => match us, hl with | [_, _], _ => rfl⟩
  have F__law_refused : FunAt K mg "_law_refused" s__law_refused P__law_refused := ⟨_, _, fun_mk (st := s__law_refused) l17 c17 k17, PySem.W.mg_of X G a17, (fun_mk (st := s__law_refused) l17 c17 k17).binds (ps := P__law_refused) fun _ _ _ _ _ _ us hl => match us, hl with | [_, _], _ => rfl⟩
  have F_law := fun_mk (st := s_law) l18 c18 k18
  refine ⟨PySem.W.fnOf "law" "law" (defArgs s_law) (defBody s_law) (defScope s_law) .none kV18 dc18 pm18 an18 cd18 ct18, fun s v => .of_eq rfl, fun base _ _ => ?_⟩
  have D_made := d_made (P := l.prog) (w := w) (base := base) F_made Z
  have D_mk : DefAt l.prog w K mg base CX0 1 "made" P_made (sp_mk K) := D_made.imp mk_imp
  have D_share := d_share (P := l.prog) (w := w) (base := base) F_share Z
  have D_added := d_added F_added Z D_mk
  have D_times := d_times F_times Z D_mk
  have D_without := d_without F_without Z D_mk
  have D_put_in := d_put_in F_put_in Z D_added D_times D_without D_share
  have D_value : DefAt l.prog w K mg base (L2.CX l.prog w) 4 "value" P_value (sp_value K eV) := d_value Y F_value Z
  have D_whole := d__law_whole (P := l.prog) (w := w) (base := base) F__law_whole Z
  have D_word_of := d__law_word_of (P := l.prog) (w := w) (base := base) Y F__law_word_of Z
  exact d_law Y F_law Z (d__law_cell_at F__law_cell_at Z) (d__law_names_by F__law_names_by Z) (d__law_big_by F__law_big_by Z) (alike_all F__law_alike Z D_whole 8) (d__law_sum_by F__law_sum_by Z) (d__law_value F__law_value Z) (d__law_sum_is F__law_sum_is Z D_whole)
    (d__law_refused Y F__law_refused Z D_value D_word_of) D_value D_added D_times D_without D_put_in
end R1
open PySem PySem.W PyProof.Rows
set_option maxRecDepth 100000 in
set_option maxHeartbeats 0 in
theorem PySem.Challenge.cw_somenumber_k02_sums_reckoned_holds : PySem.Challenge.rw_somenumber_k02_sums_reckoned.Holds := by
  w_on; o_law; k_head; (case hw => w_witness2)
  k_fill
  refine L2.walk_of (l := PySem.Challenge.rw_somenumber_k02_sums_reckoned) (n := 63) (k := 10) (x := "_law_script") (CX := fun _ => L2.CX0) (sp := fun w => XS.sp_law _) rfl (by decide) rfl ⟨rfl, by decide, by decide⟩ (fun w h Y => PySem.W.kIn_of Y) ?F (fun _ _ a ns hl _ hS => ⟨a, ns, rfl, hS, hl, fun _ => rfl⟩) (fun _ _ _ _ _ h => h)
  case F =>
    intro w mg fa h KX G hmg
    refine' R1.all_mk KX G hmg ?a1 ?l1 ?c1 ?k1 ?a2 ?l2 ?c2 ?k2 ?a3 ?l3 ?c3 ?k3 ?a4 ?l4 ?c4 ?k4 ?a5 ?l5 ?c5 ?k5 ?a6 ?l6 ?c6 ?k6 ?a7 ?l7 ?c7 ?k7 ?a8 ?l8 ?c8 ?k8 ?a9 ?l9 ?c9 ?k9 ?a10 ?l10 ?c10 ?k10 ?a11 ?l11 ?c11 ?k11 ?a12 ?l12 ?c12 ?k12 ?a13 ?l13 ?c13 ?k13 ?a14 ?l14 ?c14 ?k14 ?a15 ?l15 ?c15 ?k15 ?a16 ?l16 ?c16 ?k16 ?a17 ?l17 ?c17 ?k17 ?a18 ?l18 ?c18 ?k18 ?z_ValueError ?z_len ?z_isinstance ?z_int ?z_str ?z_bool ?z_list ?z_tuple ?z_dict ?z_set ?z_range ?z_sorted ?z_sum ?ggS ?ggV ?ggP ?ggN ?es1 ?es2 ?ebS ?edS ?etS ?exV ?ekV ?ebV ?etV ?edV ?egaV ?egtV ?eclV ?emoV ?eveV ?emeV ?exP ?ekP ?ebP ?etP ?edP ?egaP ?egtP ?eclP ?emoP ?eveP ?emeP ?exN ?ekN ?ebN ?etN ?edN ?egaN ?egtN ?eclN ?emoN ?eveN ?emeN ?esuV ?esuP ?esuN ?esuVP ?esuVN ?esuPV ?esuPN ?esuNV ?esuNP ?eqVP ?eqVN ?eqPV ?eqPN ?eqNV ?eqNP
    (case a1 => k_is); (case l1 => k_is); (case c1 => k_is); (case k1 => k_is)
    (case a2 => k_is); (case l2 => k_is); (case c2 => k_is); (case k2 => k_is)
    (case a3 => k_is); (case l3 => k_is); (case c3 => k_is); (case k3 => k_is)
    (case a4 => k_is); (case l4 => k_is); (case c4 => k_is); (case k4 => k_is)
    (case a5 => k_is); (case l5 => k_is); (case c5 => k_is); (case k5 => k_is)
    (case a6 => k_is); (case l6 => k_is); (case c6 => k_is); (case k6 => k_is)
    (case a7 => k_is); (case l7 => k_is); (case c7 => k_is); (case k7 => k_is)
    (case a8 => k_is); (case l8 => k_is); (case c8 => k_is); (case k8 => k_is)
    (case a9 => k_is); (case l9 => k_is); (case c9 => k_is); (case k9 => k_is)
    (case a10 => k_is); (case l10 => k_is); (case c10 => k_is); (case k10 => k_is)
    (case a11 => k_is); (case l11 => k_is); (case c11 => k_is); (case k11 => k_is)
    (case a12 => k_is); (case l12 => k_is); (case c12 => k_is); (case k12 => k_is)
    (case a13 => k_is); (case l13 => k_is); (case c13 => k_is); (case k13 => k_is)
    (case a14 => k_is); (case l14 => k_is); (case c14 => k_is); (case k14 => k_is)
    (case a15 => k_is); (case l15 => k_is); (case c15 => k_is); (case k15 => k_is)
    (case a16 => k_is); (case l16 => k_is); (case c16 => k_is); (case k16 => k_is)
    (case a17 => k_is); (case l17 => k_is); (case c17 => k_is); (case k17 => k_is)
    (case a18 => k_is); (case l18 => k_is); (case c18 => k_is); (case k18 => k_is)
    (case z_ValueError => k_is)
    (case z_len => k_is)
    (case z_isinstance => k_is)
    (case z_int => k_is)
    (case z_str => k_is)
    (case z_bool => k_is)
    (case z_list => k_is)
    (case z_tuple => k_is)
    (case z_dict => k_is)
    (case z_set => k_is)
    (case z_range => k_is)
    (case z_sorted => k_is)
    (case z_sum => k_is)
    (case ggS => k_is)
    (case ggV => k_is)
    (case ggP => k_is)
    (case ggN => k_is)
    (case es1 => k_is)
    (case es2 => k_is)
    (case ebS => k_is)
    (case edS => k_is)
    (case etS => k_is)
    (case exV => k_exc)
    (case ekV => k_is)
    (case ebV => k_is)
    (case etV => k_is)
    (case edV => k_is)
    (case egaV => k_is)
    (case egtV => k_is)
    (case eclV => k_is)
    (case emoV => k_is)
    (case eveV => k_is)
    (case emeV => k_is)
    (case exP => k_exc)
    (case ekP => k_is)
    (case ebP => k_is)
    (case etP => k_is)
    (case edP => k_is)
    (case egaP => k_is)
    (case egtP => k_is)
    (case eclP => k_is)
    (case emoP => k_is)
    (case eveP => k_is)
    (case emeP => k_is)
    (case exN => k_exc)
    (case ekN => k_is)
    (case ebN => k_is)
    (case etN => k_is)
    (case edN => k_is)
    (case egaN => k_is)
    (case egtN => k_is)
    (case eclN => k_is)
    (case emoN => k_is)
    (case eveN => k_is)
    (case emeN => k_is)
    (case esuV => k_is)
    (case esuP => k_is)
    (case esuN => k_is)
    (case esuVP => k_is)
    (case esuVN => k_is)
    (case esuPV => k_is)
    (case esuPN => k_is)
    (case esuNV => k_is)
    (case esuNP => k_is)
    (case eqVP => first | rfl | decide +kernel)
    (case eqVN => first | rfl | decide +kernel)
    (case eqPV => first | rfl | decide +kernel)
    (case eqPN => first | rfl | decide +kernel)
    (case eqNV => first | rfl | decide +kernel)
    (case eqNP => first | rfl | decide +kernel)
#print axioms PySem.Challenge.cw_somenumber_k02_sums_reckoned_holds

