import PyProof.Rows.All
import Wide.All
import OpenK.AllK
import Wide.FinOn
import HandS.ForMost
import HandS.IsInst
import HandS.More
import HandS.Star
import HandS.TupAny
import HandS.TupMul
import HandS.Style
import HandS.Wide
import PyProof.StrOps2
import PyProof.Rows.StrMeet
import HandS.Evl
import KE.DataEq
import HandS.ForExc
import HandS.ExcIs
import HandS.HotCalls
import HandS.FStr
import HandS.Small
import HandS.DictComp
import HandS.SetFor
import KE.DataCmp
import HandS.Gcd
import HandS.CallLocal
import HandS.Defaults
import HandS.Head0
import HandS.Head1
import HandS.Head2
import HandS.Head3
import HandS.HeadEnd
import HandS.HeadHook1
import HandS.HeadHook2
import HandS.HeadHook3
import HandS.HeadHook4
import HandS.HeadWalk
import HandS.Words
import PySem.Challenge.RW_somenumber_k06_straightened
set_option Elab.async false
set_option linter.all false
set_option maxRecDepth 100000
set_option maxHeartbeats 4000000
namespace XS
open PySem PySem.Spec PyProof.Rows L2

/-! ### defs by their names -/
/-- the def named nm stands in the module's names -/
def FunAt (K : PySem.W.Frag) (mg : Str → Option Value) (nm : Str) (st : Stmt) (ps : List Str) : Prop :=
  ∃ f fd, Fun K nm nm st f fd ∧ mg nm = some (.ref f) ∧ Binds K fd ps []
/-- the def named nm keeps the promise sp -/
def DefAt (P : Program) (w : World) (K : PySem.W.Frag) (mg : Str → Option Value) (base : Heap) (CX : CXT) (k : Nat) (nm : Str) (ps : List Str) (sp : Sp) : Prop :=
  ∃ f fd, FnOk P w K mg base CX k f fd ps sp ∧ mg nm = some (.ref f) ∧ PySem.W.keepIn K (.ref f) = true ∧ Binds K fd ps []
section
variable {P : Program} {w : World} {K : PySem.W.Frag} {mg : Str → Option Value} {base : Heap} {nm : Str} {st : Stmt} {ps N : List Str} {sp sp' : Sp} {k j : Nat} {CXX : CXT}
theorem DefAt.mono (D : DefAt P w K mg base CXX j nm ps sp) (h : j ≤ k) : DefAt P w K mg base CXX k nm ps sp := by
  obtain ⟨f, fd, F, a, b, c⟩ := D
  exact ⟨f, fd, F.mono h, a, b, c⟩
theorem DefAt.imp (D : DefAt P w K mg base CXX k nm ps sp) (h : ∀ vs H Q E, sp' vs H Q E → sp vs H Q E) : DefAt P w K mg base CXX k nm ps sp' := by
  obtain ⟨f, fd, F, a, b, c⟩ := D
  exact ⟨f, fd, F.imp h, a, b, c⟩
/-- a promise by the body's reading, where nothing is raised -/
theorem FunAt.ok (F : FunAt K mg nm st ps) (S : FnScope N ps (defScope st)) (len : ∀ vs H Q E, sp vs H Q E → vs.length = ps.length)
    (hbody : ∀ (f : Addr) (cdv : Value) (A : Around) (outer : List Env) (s : Shared) (H : Hp) (vs : List V) (Q : VK) (E : XK), Room k (A.deeper (envOfC nm (defScope st) s.heap.objs.size f cdv)) → sp vs H Q E →
      ∃ t, PSs (cxOf CX0 P w K mg base N nm (defScope st) f cdv A outer s H E).nox (defBody st) t ∧ t { nx := fun _ H' => Q .non H', rt := Q } (start N vs) H) : DefAt P w K mg base CX0 (k + 1) nm ps sp := by
  obtain ⟨f, fd, F, a, b⟩ := F
  exact ⟨f, fd, F.ok S len (hbody f), a, F.kp, b⟩
/-- a promise that nobody can ask -/
theorem FunAt.never (F : FunAt K mg nm st ps) (no : ∀ vs H Q E, ¬ sp vs H Q E) : DefAt P w K mg base CXX k nm ps sp := by
  obtain ⟨f, fd, F, a, b⟩ := F
  exact ⟨f, fd, ⟨fun vs H Q E h => absurd h (no vs H Q E), fun A outer s H args us vs Q E _ _ _ _ h => absurd h (no vs H Q E)⟩, a, F.kp, b⟩
end
section
variable {X : Cx} {CXX : CXT} {k : Nat} {ps : List Str} {sp : Sp} {E : XK} {x : Str} {e : Expr} {es : List Expr} {t : TA} {p pos : Pos}
theorem pe_callD (D : DefAt X.prog X.w X.K X.mg X.base CXX k x ps sp) (hr : Room k X.A) (hg : Gl X x) (hx : Passes CXX X E) (ha : PA X (e :: es) t) (hdb : (x == ("__debug__" : Str)) = false := by decide)
    (he : starEach (e :: es) X.env = (false, eval e X.env) :: starEach es X.env := by rfl) (hpl : (backTo pos (starEach es X.env)).any (·.1) = false := by rfl) : PE X (.Call (.Name x p) (e :: es) [] pos) (tCall sp [] E t) := by
  obtain ⟨f, fd, F, a, b, c⟩ := D
  exact pe_call F hr hg a b c .nil hx ha hdb he hpl
end

/-! ### text times number -/
def repS (x : Str) (n : Nat) : Str := ⟨(List.replicate n x.cps.toList).flatten.toArray⟩
theorem repS_len (x : Str) (n : Nat) : (repS x n).length = n * x.length := by
  show (List.replicate n x.cps.toList).flatten.toArray.size = n * x.cps.size
  simp
theorem foldl_cps (c : Array Nat) : ∀ (m : Nat) (acc : Array Nat), (List.replicate m c).foldl (· ++ ·) acc = acc ++ (List.replicate m c.toList).flatten.toArray
  | 0, acc => by simp
  | m + 1, acc => by
    rw [List.replicate_succ, List.foldl_cons, foldl_cps c m, List.replicate_succ, List.flatten_cons]
    apply Array.ext'
    simp
def rRepS : R2 := fun x y H Q => ∃ z k, x = .str z ∧ y = .int k ∧ 1 ≤ k ∧ k ≤ 1000 ∧ z.length ≤ 1000 ∧ Q (.str (repS z k.toNat)) H
theorem op_repS {X : Cx} : OpR X (binaryOp .Mult) rRepS := by
  intro pins s σ H x y v u Q I rx ry h
  obtain ⟨z, k, rfl, rfl, h1, h2, hz, q⟩ := h
  obtain ⟨t, rfl⟩ := rx
  obtain ⟨t2, rfl⟩ := ry
  refine PySem.P.mul_str (by simp; omega) (fun _ _ => ?_) (fun _ _ => ?_) ?_
  · have h3 : (z.length : Int) * k ≤ 1000 * 1000 := Int.mul_le_mul (by omega) h2 (by omega) (by omega)
    have h4 : (z.length : Int) ≤ (2 ^ 63 - 1) / k := Int.le_ediv_of_mul_le (by omega) (by omega)
    have h5 : ((2 : Int) ^ 63 - 1) / k = (2 ^ 63 - 1) / k := rfl
    omega
  · have h3 : z.length * k.toNat ≤ 1000 * 1000 := Nat.mul_le_mul hz (by omega)
    unfold PySem.Builtin.Str.tooLong
    simp
    have : sizeLine = 16777216 := sizeLine_eq
    omega
  · rw [if_neg (by omega)]
    by_cases hb : (k == 1 || z.length == 0) = true
    · rw [if_pos hb]
      have e : repS z k.toNat = z := by
        unfold repS
        simp only [Bool.or_eq_true, beq_iff_eq] at hb
        rcases hb with hb | hb
        · subst hb
          simp
        · have h0 : z.cps.toList = [] := by
            have : z.cps.size = 0 := hb
            simp at this
            simp [this]
          rw [h0]
          have : (List.replicate k.toNat ([] : List Nat)).flatten = [] := by simp
          rw [this]
          have h1 : z.cps = #[] := by
            have : z.cps.size = 0 := hb
            simpa using this
          cases z
          simp at h1
          subst h1
          rfl
      rw [e] at q
      exact ⟨.str z, H, I, ⟨_, rfl⟩, q⟩
    · rw [if_neg hb]
      have e : (⟨(List.replicate k.toNat z.cps).foldl (· ++ ·) #[]⟩ : Str) = repS z k.toNat := by
        unfold repS
        rw [foldl_cps]
        simp
      rw [e]
      refine ⟨?_, .str (repS z k.toNat), H, I.tok _, ⟨_, rfl⟩, q⟩
      have h3 : z.length * k.toNat ≤ 1000 * 1000 := Nat.mul_le_mul hz (by omega)
      rw [repS_len, sizeLine_eq, Nat.mul_comm]
      omega
end XS

namespace XS
open PySem PySem.Spec PyProof.Rows L2
section
variable {K : PySem.W.Frag} {σ : L2.St} {H : Hp} {ta tb te tx : TE} {t u w : TS} {c c2 : TT} {x y z v : V} {r : R2} {Q : VK} {D : Ends} {g : TG}
/-! ### one step of a reading -/
theorem beq_dec {α : Type} [DecidableEq α] (i j : α) : (i == j) = decide (i = j) := by rw [Bool.eq_iff_iff]; simp
theorem x_sAsg (h : te σ H fun x H1 => g x σ H1 (u D)) : tSeq (tAsg te g) u D σ H := h
theorem x_sIf (h : c σ H fun b H1 => if b = true then t { D with nx := u D } σ H1 else w { D with nx := u D } σ H1) : tSeq (tIfS c t w) u D σ H := h
theorem x_sDrop (h : te σ H fun _ H1 => u D σ H1) : tSeq (tDrop te) u D σ H := h
theorem x_sNext (h : u D σ H) : tSeq tNext u D σ H := h
theorem x_sSeq (h : tSeq t (tSeq w u) D σ H) : tSeq (tSeq t w) u D σ H := h
theorem x_sAny (h : t { D with nx := u D } σ H) : tSeq t u D σ H := h
theorem x_asg (h : te σ H fun x H1 => g x σ H1 D.nx) : tAsg te g D σ H := h
theorem x_if (h : c σ H fun b H1 => if b = true then t D σ H1 else w D σ H1) : tIfS c t w D σ H := h
theorem x_drop (h : te σ H fun _ H1 => D.nx σ H1) : tDrop te D σ H := h
theorem x_ret (h : te σ H D.rt) : tRet te D σ H := h
theorem x_next (h : D.nx σ H) : tNext D σ H := h
theorem x_cont (h : D.ct σ H) : tCont D σ H := h
theorem x_nx {f : L2.St → Hp → Prop} {a b d} (h : f σ H) : Ends.nx ⟨f, a, b, d⟩ σ H := h
theorem x_ct {f : L2.St → Hp → Prop} {a b d} (h : f σ H) : Ends.ct ⟨a, b, d, f⟩ σ H := h
theorem x_rt {f : VK} {a b d} (h : f v H) : Ends.rt ⟨a, f, b, d⟩ v H := h
theorem x_bk {f : L2.St → Hp → Prop} {a b d} (h : f σ H) : Ends.bk ⟨a, b, f, d⟩ σ H := h
theorem x_gname {i : Nat} {k : L2.St → Hp → Prop} (h : k (σ.set i (some v)) H) : gName i v σ H k := h
theorem x_var {i : Nat} (e : σ[i]? = some (some v)) (h : Q v H) : tVar i σ H Q := ⟨v, e, h⟩
theorem x_c (h : Q v H) : tC v σ H Q := h
theorem x_op (h : ta σ H fun x H1 => tb σ H1 fun y H2 => r x y H2 Q) : tOp r ta tb σ H Q := h
theorem x_un {r : V → Hp → VK → Prop} (h : ta σ H fun x H1 => r x H1 Q) : tUn r ta σ H Q := h
theorem x_I0 {f : Int → Int → V} {i j : Int} (h : Q (f i j) H) : rI0 f (.int i) (.int j) H Q := ⟨i, j, rfl, rfl, h⟩
theorem x_I {C : Int → Int → Prop} {f : Int → Int → V} {i j : Int} (hc : C i j) (h : Q (f i j) H) : rI C f (.int i) (.int j) H Q := ⟨i, j, rfl, rfl, hc, h⟩
theorem x_U {f : Int → V} {i : Int} (h : Q (f i) H) : rU f (.int i) H Q := ⟨i, rfl, h⟩
theorem x_eqI {i j : Int} (h : Q (.bl (decide (i = j))) H) : rEq (.int i) (.int j) H Q := ⟨rfl, by rw [dec_int, beq_dec]; exact h⟩
theorem x_neI {i j : Int} (h : Q (.bl (!decide (i = j))) H) : rNe (.int i) (.int j) H Q := ⟨rfl, by rw [dec_int, beq_dec]; exact h⟩
theorem x_eqS {i j : Str} (h : Q (.bl (decide (i = j))) H) : rEq (.str i) (.str j) H Q := ⟨rfl, by rw [dec_str, beq_dec]; exact h⟩
theorem x_neS {i j : Str} (h : Q (.bl (!decide (i = j))) H) : rNe (.str i) (.str j) H Q := ⟨rfl, by rw [dec_str, beq_dec]; exact h⟩
theorem x_eqB {i j : Bool} (h : Q (.bl (decide (i = j))) H) : rEq (.bl i) (.bl j) H Q := ⟨rfl, by rw [dec_bl, beq_dec]; exact h⟩
theorem x_neB {i j : Bool} (h : Q (.bl (!decide (i = j))) H) : rNe (.bl i) (.bl j) H Q := ⟨rfl, by rw [dec_bl, beq_dec]; exact h⟩
theorem x_test {k : Bool → Hp → Prop} (h : te σ H fun x H' => ∃ b, x = .bl b ∧ k b H') : tTest te σ H k := h
theorem x_B {k : Bool → Hp → Prop} (h : te σ H fun x H' => ∃ b, x = .bl b ∧ k b H') : tB te σ H k := h
theorem x_k {b : Bool} {k : Bool → Hp → Prop} (h : k b H) : ∃ b', V.bl b = V.bl b' ∧ k b' H := ⟨b, rfl, h⟩
theorem x_and {k : Bool → Hp → Prop} (h : c σ H fun b H1 => if b = true then c2 σ H1 k else k false H1) : tAnd c c2 σ H k := h
theorem x_or {k : Bool → Hp → Prop} (h : c σ H fun b H1 => if b = true then k true H1 else c2 σ H1 k) : tOr c c2 σ H k := h
theorem x_not {k : Bool → Hp → Prop} (h : c σ H fun b H1 => k (!b) H1) : tNot c σ H k := h
theorem x_andV (h : ta σ H fun x H1 => ∃ b, x = .bl b ∧ if b = true then tb σ H1 Q else Q (.bl false) H1) : tAndV ta tb σ H Q := h
theorem x_orV (h : ta σ H fun x H1 => ∃ b, x = .bl b ∧ if b = true then Q (.bl true) H1 else tb σ H1 Q) : tOrV ta tb σ H Q := h
theorem x_notV (h : ta σ H fun x H1 => ∃ b, x = .bl b ∧ Q (.bl (!b)) H1) : tNotV ta σ H Q := h
theorem x_ifE (h : c σ H fun b H1 => if b = true then ta σ H1 Q else tb σ H1 Q) : tIf c ta tb σ H Q := h
theorem x_k2 {b : Bool} {P : Bool → Prop} (h : P b) : ∃ b', V.bl b = V.bl b' ∧ P b' := ⟨b, rfl, h⟩
theorem x_call {sp : Sp} {dvs : List V} {E : XK} {a : TA} (h : a σ H fun vs H1 => sp (vs ++ dvs) H1 Q E) : tCall sp dvs E a σ H Q := h
theorem x_cb {r : List V → Hp → VK → Prop} {a : TA} (h : a σ H fun vs H1 => r vs H1 Q) : tCB r a σ H Q := h
theorem x_nil {k : List V → Hp → Prop} (h : k [] H) : tNil σ H k := h
theorem x_cons {a : TA} {k : List V → Hp → Prop} (h : ta σ H fun x H1 => a σ H1 fun xs H2 => k (x :: xs) H2) : tCons ta a σ H k := h
theorem x_tup {a : TA} (h : a σ H fun xs H1 => xs.length ≤ sizeLine ∧ ∀ p, H1 p = none → Q (.ref p) (upd H1 p (.tup xs))) : tTup a σ H Q := h
theorem x_lst {a : TA} (h : a σ H fun xs H1 => xs.length ≤ sizeLine ∧ ∀ p, H1 p = none → Q (.ref p) (upd H1 p (.lst xs))) : tLst a σ H Q := h
theorem x_sl {r : V → Option Int → Option Int → Hp → VK → Prop} {tl th : TO} (h : te σ H fun x H1 => tl σ H1 fun l H2 => th σ H2 fun u H3 => r x l u H3 Q) : tSl r te tl th σ H Q := h
theorem x_nopart {k : Option Int → Hp → Prop} (h : k none H) : tNoPart σ H k := h
theorem x_part {k : Option Int → Hp → Prop} (h : te σ H fun x H1 => ∃ i, x = .int i ∧ k (some i) H1) : tPart te σ H k := h
theorem x_ki {i : Int} {P : Int → Prop} (h : P i) : ∃ i', V.int i = V.int i' ∧ P i' := ⟨i, rfl, h⟩
theorem x_bm {T : String} {r : V → List V → Hp → VK → Prop} {a : TA} (h : te σ H fun x H1 => tyV K T x H1 ∧ a σ H1 fun xs H2 => r x xs H2 Q) : tBM K T r te a σ H Q := h
theorem x_bm0 {T : String} {r : V → List V → Hp → VK → Prop} (h : te σ H fun x H1 => tyV K T x H1 ∧ r x [] H1 Q) : tBM0 K T r te σ H Q := h
theorem x_ixL {p : Addr} {xs : List V} {i : Int} (hx : SqL K H p xs) (ha : atI xs i = some v) (h : Q v H) : rIxL K (.ref p) (.int i) H Q := ⟨p, xs, i, v, rfl, rfl, hx, ha, h⟩
theorem x_ixT {p : Addr} {xs : List V} {i : Int} (hx : SqT K H p xs) (ha : atI xs i = some v) (h : Q v H) : rIxT K (.ref p) (.int i) H Q := ⟨p, xs, i, v, rfl, rfl, hx, ha, h⟩
theorem x_ixS {z : Str} {i : Int} {cc : Nat} (hz : z.length ≤ sizeLine) (ha : atI z.cps.toList i = some cc) (h : Q (.str ⟨#[cc]⟩) H) : rIxS (.str z) (.int i) H Q := ⟨z, i, cc, rfl, rfl, hz, ha, h⟩
theorem x_tyL {p : Addr} {xs : List V} (h : H p = some (.lst xs)) : tyV K "list" (.ref p) H := Or.inl ⟨rfl, _, Or.inl (Or.inl h)⟩
theorem x_tyL' {A : Prop} {p : Addr} (h1 : tyV K "list" (.ref p) H) (h : A) : tyV K "list" (.ref p) H ∧ A := ⟨h1, h⟩
theorem x_app {p : Addr} {xs : List V} (h1 : H p = some (.lst xs)) (hz : xs.length < sizeLine) (h : Q .non (upd H p (.lst (xs ++ [v])))) : rAppend (.ref p) [v] H Q := ⟨p, xs, v, rfl, rfl, h1, hz, h⟩
theorem x_T {A B : Prop} (h : A) : if true = true then A else B := by rw [if_pos rfl]; exact h
theorem x_F {A B : Prop} (h : B) : if false = true then A else B := by rw [if_neg Bool.false_ne_true]; exact h
theorem x_Tn {A B : Prop} (h : A) : if (!false) = true then A else B := x_T h
theorem x_Fn {A B : Prop} (h : B) : if (!true) = true then A else B := x_F h
theorem x_2 {b : Bool} {A B : Prop} (h1 : b = true → A) (h2 : b = false → B) : if b = true then A else B := by
  cases b with
  | true => exact x_T (h1 rfl)
  | false => exact x_F (h2 rfl)
theorem x_d {p : Prop} [Decidable p] {A B : Prop} (h1 : p → A) (h2 : ¬ p → B) : if decide p = true then A else B := by
  by_cases h : p
  · rw [decide_eq_true h]; exact x_T (h1 h)
  · rw [decide_eq_false h]; exact x_F (h2 h)
theorem x_dn {p : Prop} [Decidable p] {A B : Prop} (h1 : ¬ p → A) (h2 : p → B) : if (!decide p) = true then A else B := by
  by_cases h : p
  · rw [decide_eq_true h]; exact x_F (h2 h)
  · rw [decide_eq_false h]; exact x_T (h1 h)
/-- a known test -/
theorem x_yes {b : Bool} {A B : Prop} (hb : b = true) (h : A) : if b = true then A else B := by rw [if_pos hb]; exact h
theorem x_no {b : Bool} {A B : Prop} (hb : b = false) (h : B) : if b = true then A else B := by rw [if_neg (by rw [hb]; exact Bool.false_ne_true)]; exact h
/-- a new object: what stood stands -/
theorem same_upd {H : Hp} {p : Addr} {o : HO} (h : H p = none) : Same H (upd H p o) := fun b x e => by
  rw [upd_ne (ne_of_none e h)]
  exact e
theorem x_new {p : Addr} {o : HO} {P : Hp → Prop} (hp : H p = none) (h : ∀ H1, Same H H1 → H1 p = some o → P H1) : P (upd H p o) := h _ (same_upd hp) upd_same
theorem newly {H : Hp} {p : Addr} {o : HO} (hp : H p = none) : Same H (upd H p o) ∧ upd H p o p = some o := ⟨same_upd hp, upd_same⟩
theorem same_mut {H H' : Hp} {p : Addr} {o : HO} (e : Same H H') (h : H p = none) : Same H (upd H' p o) := fun b x q => by
  rw [upd_ne (ne_of_none q h)]
  exact e b x q
/-- a new tuple, list: told by what holds behind -/
theorem x_newT {xs : List V} {Q : VK} (hz : xs.length ≤ sizeLine) (h : ∀ p H1, H p = none → Same H H1 → H1 p = some (.tup xs) → Q (.ref p) H1) : xs.length ≤ sizeLine ∧ ∀ p, H p = none → Q (.ref p) (upd H p (.tup xs)) :=
  ⟨hz, fun p hp => h p _ hp (same_upd hp) upd_same⟩
theorem x_newL {xs : List V} {Q : VK} (hz : xs.length ≤ sizeLine) (h : ∀ p H1, H p = none → Same H H1 → H1 p = some (.lst xs) → Q (.ref p) H1) : xs.length ≤ sizeLine ∧ ∀ p, H p = none → Q (.ref p) (upd H p (.lst xs)) :=
  ⟨hz, fun p hp => h p _ hp (same_upd hp) upd_same⟩
end
/-! ### for -/
def ForJ (J : It) (g : TG) (t : TS) : TS := tFor (fun _ H' R => R J H') g t
section
variable {K : PySem.W.Frag} {σ : L2.St} {H : Hp} {tl : TE} {t u : TS} {D : Ends} {g : TG}
theorem x_for {wi : TI} (h : wi σ H fun J H1 => ForJ J g t D σ H1) : tFor wi g t D σ H := h
theorem x_sFor {wi : TI} (h : wi σ H fun J H1 => ForJ J g t { D with nx := u D } σ H1) : tSeq (tFor wi g t) u D σ H := h
theorem x_iL {R : It → Hp → Prop} (h : tl σ H fun x H1 => ∃ a, x = .ref a ∧ (∃ xs, SqL K H1 a xs) ∧ R (Itl K a) H1) : iList K tl σ H R := h
theorem x_iT {R : It → Hp → Prop} (h : tl σ H fun x H1 => ∃ a, x = .ref a ∧ (∃ xs, SqT K H1 a xs) ∧ R (Itt K a) H1) : iTup K tl σ H R := h
theorem x_iR1 {a : TA} {R : It → Hp → Prop} (h : a σ H fun vs H1 => ∃ j : Int, vs = [.int j] ∧ -(2 ^ 62) ≤ j ∧ j < 2 ^ 62 ∧ R (Itr 0 j.toNat) H1) : iRng1 a σ H R := h
theorem x_iR2 {a : TA} {R : It → Hp → Prop} (h : a σ H fun vs H1 => ∃ i j : Int, vs = [.int i, .int j] ∧ (-(2 ^ 62) ≤ i ∧ i < 2 ^ 62 ∧ -(2 ^ 62) ≤ j ∧ j < 2 ^ 62) ∧ R (Itr i (j - i).toNat) H1) : iRng2 a σ H R := h
theorem x_forL {p : Addr} {xs : List V} (hx : SqL K H p xs) (Pv : Nat → L2.St → Hp → Prop) (h0 : Pv 0 σ H) (hl : ∀ i σ' H', i ≤ xs.length → Pv i σ' H' → SqL K H' p xs)
    (hs : ∀ i x σ' H', xs[i]? = some x → Pv i σ' H' → g x σ' H' fun σ2 H2 => t { D with nx := Pv (i + 1), ct := Pv (i + 1), bk := D.nx } σ2 H2) (hd : ∀ σ' H', Pv xs.length σ' H' → D.nx σ' H') :
    ∃ a, V.ref p = .ref a ∧ (∃ xs, SqL K H a xs) ∧ ForJ (Itl K a) g t D σ H := ⟨p, rfl, ⟨xs, hx⟩, for_list (K := K) (a := p) (xs := xs) Pv h0 hl hs hd⟩
theorem x_forT {p : Addr} {xs : List V} (hx : SqT K H p xs) (Pv : Nat → L2.St → Hp → Prop) (h0 : Pv 0 σ H) (hl : ∀ i σ' H', i ≤ xs.length → Pv i σ' H' → SqT K H' p xs)
    (hs : ∀ i x σ' H', xs[i]? = some x → Pv i σ' H' → g x σ' H' fun σ2 H2 => t { D with nx := Pv (i + 1), ct := Pv (i + 1), bk := D.nx } σ2 H2) (hd : ∀ σ' H', Pv xs.length σ' H' → D.nx σ' H') :
    ∃ a, V.ref p = .ref a ∧ (∃ xs, SqT K H a xs) ∧ ForJ (Itt K a) g t D σ H := ⟨p, rfl, ⟨xs, hx⟩, for_tup (K := K) (a := p) (xs := xs) Pv h0 hl hs hd⟩
theorem x_forR1 {n : Int} (hb : -(2 ^ 62) ≤ n ∧ n < 2 ^ 62) (Pv : Nat → L2.St → Hp → Prop) (h0 : Pv 0 σ H)
    (hs : ∀ (i : Nat) σ' H', (i : Int) < n → Pv i σ' H' → g (.int (i : Int)) σ' H' fun σ2 H2 => t { D with nx := Pv (i + 1), ct := Pv (i + 1), bk := D.nx } σ2 H2) (hd : ∀ σ' H', Pv n.toNat σ' H' → D.nx σ' H') :
    ∃ j : Int, [V.int n] = [.int j] ∧ -(2 ^ 62) ≤ j ∧ j < 2 ^ 62 ∧ ForJ (Itr 0 j.toNat) g t D σ H :=
  ⟨n, rfl, hb.1, hb.2, for_range (lo := 0) (n := n.toNat) Pv h0 (fun i σ' H' hi q => by rw [Int.zero_add]; exact hs i σ' H' (by omega) q) hd⟩
theorem x_forR2 {lo n : Int} (hb : -(2 ^ 62) ≤ lo ∧ lo < 2 ^ 62 ∧ -(2 ^ 62) ≤ n ∧ n < 2 ^ 62) (Pv : Nat → L2.St → Hp → Prop) (h0 : Pv 0 σ H)
    (hs : ∀ (i : Nat) σ' H', lo + (i : Int) < n → Pv i σ' H' → g (.int (lo + (i : Int))) σ' H' fun σ2 H2 => t { D with nx := Pv (i + 1), ct := Pv (i + 1), bk := D.nx } σ2 H2) (hd : ∀ σ' H', Pv (n - lo).toNat σ' H' → D.nx σ' H') :
    ∃ i j : Int, [V.int lo, V.int n] = [.int i, .int j] ∧ (-(2 ^ 62) ≤ i ∧ i < 2 ^ 62 ∧ -(2 ^ 62) ≤ j ∧ j < 2 ^ 62) ∧ ForJ (Itr i (j - i).toNat) g t D σ H :=
  ⟨lo, n, rfl, hb, for_range (lo := lo) (n := (n - lo).toNat) Pv h0 (fun i σ' H' hi q => hs i σ' H' (by omega) q) hd⟩
/-! ### targets -/
theorem x_gtup {n : Nat} {p : Addr} {xs : List V} {gs : TGs} {k : L2.St → Hp → Prop} (hx : SqT K H p xs) (hn : xs.length = n) (h : gs xs σ H k) : gTup K n gs (.ref p) σ H k := ⟨p, xs, rfl, hx, hn, h⟩
theorem x_gcons {gs : TGs} {v : V} {r : List V} {k : L2.St → Hp → Prop} (h : g v σ H fun σ' H' => gs r σ' H' k) : gCons g gs (v :: r) σ H k := ⟨v, r, rfl, h⟩
theorem x_gnil {k : L2.St → Hp → Prop} (h : k σ H) : gNil [] σ H k := ⟨rfl, h⟩
end
theorem sz {n : Nat} (h : n ≤ 100000) : n ≤ sizeLine := Nat.le_trans h (by decide)
theorem szl {n : Nat} (h : n < 100000) : n < sizeLine := Nat.lt_of_lt_of_le h (by decide)
theorem _root_.L2.Same.seqT {K : PySem.W.Frag} {H H' : Hp} {a : Addr} {xs : List V} (e : Same H H') (h : SqT K H a xs) : SqT K H' a xs := by
  rcases h with (h | ⟨o, h⟩) | h
  · exact .inl (.inl (e _ _ h))
  · exact .inl (.inr ⟨o, e _ _ h⟩)
  · exact .inr h
theorem g_var {i : Nat} {σ : L2.St} {H : Hp} {Q : VK} (h : tVar i σ H Q) : tVar i σ H Q := h
theorem g_I {C : Int → Int → Prop} {f : Int → Int → V} {x y : V} {H : Hp} {Q : VK} (h : rI C f x y H Q) : rI C f x y H Q := h
theorem x_par {i j : Nat} {a : TA} {D : Ends} {σ : L2.St} {H : Hp} (h : a σ H fun vs H1 => ∃ v w, vs = [v, w] ∧ D.nx ((σ.set i (some v)).set j (some w)) H1) : tPar i j a D σ H := h
theorem x_sPar {i j : Nat} {a : TA} {u : TS} {D : Ends} {σ : L2.St} {H : Hp} (h : a σ H fun vs H1 => ∃ v w, vs = [v, w] ∧ u D ((σ.set i (some v)).set j (some w)) H1) : tSeq (tPar i j a) u D σ H := h
end XS

namespace XS
open PySem PySem.Spec PyProof.Rows L2
/-! ### texts in order -/
def slt (a b : Str) : Prop := ltCps a.cps.toList b.cps.toList = true
theorem ltC_irr : ∀ a : List Nat, ltCps a a = false
  | [] => rfl
  | a :: r => by
    show (decide (a < a) || (a == a && ltCps r r)) = false
    rw [ltC_irr r]; simp
theorem ltC_tr : ∀ a b c : List Nat, ltCps a b = true → ltCps b c = true → ltCps a c = true
  | [], [], _, h, _ => by cases h
  | [], _ :: _, [], _, h => by cases h
  | [], _ :: _, _ :: _, _, _ => rfl
  | _ :: _, [], _, h, _ => by cases h
  | _ :: _, _ :: _, [], _, h => by cases h
  | a :: r, b :: s, c :: t, h1, h2 => by
    have h1' : (decide (a < b) || (a == b && ltCps r s)) = true := h1
    have h2' : (decide (b < c) || (b == c && ltCps s t)) = true := h2
    show (decide (a < c) || (a == c && ltCps r t)) = true
    simp only [Bool.or_eq_true, Bool.and_eq_true, decide_eq_true_eq, beq_iff_eq] at *
    rcases h1' with h1' | ⟨h1', h3⟩
    · rcases h2' with h2' | ⟨h2', h4⟩
      · exact .inl (by omega)
      · exact .inl (by omega)
    · rcases h2' with h2' | ⟨h2', h4⟩
      · exact .inl (by omega)
      · exact .inr ⟨by omega, ltC_tr r s t h3 h4⟩
theorem ltC_tot : ∀ a b : List Nat, ltCps a b = false → ltCps b a = false → a = b
  | [], [], _, _ => rfl
  | [], _ :: _, h, _ => by cases h
  | _ :: _, [], _, h => by cases h
  | a :: r, b :: s, h1, h2 => by
    have h1' : (decide (a < b) || (a == b && ltCps r s)) = false := h1
    have h2' : (decide (b < a) || (b == a && ltCps s r)) = false := h2
    simp only [Bool.or_eq_false_iff, Bool.and_eq_false_iff, decide_eq_false_iff_not, beq_eq_false_iff_ne] at *
    have e : a = b := by omega
    subst e
    have h3 : ltCps r s = false := by rcases h1'.2 with h | h; exact absurd rfl h; exact h
    have h4 : ltCps s r = false := by rcases h2'.2 with h | h; exact absurd rfl h; exact h
    rw [ltC_tot r s h3 h4]
theorem str_ext {a b : Str} (h : a.cps.toList = b.cps.toList) : a = b := by
  cases a; cases b
  simp at h
  subst h
  rfl
theorem slt_irr (a : Str) : ¬ slt a a := by unfold slt; rw [ltC_irr]; exact Bool.false_ne_true
theorem slt_tr {a b c : Str} (h1 : slt a b) (h2 : slt b c) : slt a c := ltC_tr _ _ _ h1 h2
theorem slt_asym {a b : Str} (h1 : slt a b) (h2 : slt b a) : False := slt_irr _ (slt_tr h1 h2)
theorem slt_tot {a b : Str} (h1 : ¬ slt a b) (h2 : ¬ slt b a) : a = b := str_ext (ltC_tot _ _ (by unfold slt at h1; simpa using h1) (by unfold slt at h2; simpa using h2))
theorem slt_lt {a b : Str} : slt a b ↔ a.cps.toList < b.cps.toList := by unfold slt; rw [ltCps_eq]; simp
/-- rising names -/
def Rising (xs : List Str) : Prop := xs.Pairwise slt
theorem rising_of : ∀ {xs : List Str}, xs.Nodup → sortedS xs = true → Rising xs := by
  have key : ∀ (r : List Str) (p : Str), (p :: r).Nodup → risingS p r = true → Rising (p :: r) := by
    intro r
    induction r with
    | nil => intro p _ _; exact List.pairwise_singleton _ _
    | cons x r ih =>
      intro p nd h
      have h' : (!ltCps x.cps.toList p.cps.toList && risingS x r) = true := h
      simp only [Bool.and_eq_true, Bool.not_eq_true'] at h'
      have nd2 := (List.nodup_cons.mp nd).2
      have ih' := ih x nd2 h'.2
      have hpx : slt p x := by
        by_cases e : slt p x
        · exact e
        · have : p = x := slt_tot e (by unfold slt; rw [h'.1]; exact Bool.false_ne_true)
          subst this
          exact absurd (List.mem_cons_self ..) (List.nodup_cons.mp nd).1
      refine List.pairwise_cons.mpr ⟨fun y hy => ?_, ih'⟩
      rcases List.mem_cons.mp hy with rfl | hy
      · exact hpx
      · exact slt_tr hpx (List.rel_of_pairwise_cons ih' hy)
  intro xs nd h
  cases xs with
  | nil => exact List.Pairwise.nil
  | cons p r => exact key r p nd h
theorem Rising.nodup {xs : List Str} (h : Rising xs) : xs.Nodup := List.Pairwise.imp (fun {a b} h e => by subst e; exact slt_irr _ h) h
/-- rising lists of the same members are the same -/
theorem rising_ext : ∀ {xs ys : List Str}, Rising xs → Rising ys → (∀ x, x ∈ xs ↔ x ∈ ys) → xs = ys
  | [], [], _, _, _ => rfl
  | [], y :: _, _, _, h => absurd ((h y).mpr (List.mem_cons_self ..)) (by simp)
  | x :: _, [], _, _, h => absurd ((h x).mp (List.mem_cons_self ..)) (by simp)
  | x :: xs, y :: ys, hx, hy, h => by
    have e : x = y := by
      rcases List.mem_cons.mp ((h x).mp (List.mem_cons_self ..)) with e | hm
      · exact e
      · rcases List.mem_cons.mp ((h y).mpr (List.mem_cons_self ..)) with e | hm2
        · exact e.symm
        · exact (slt_asym (List.rel_of_pairwise_cons hx hm2) (List.rel_of_pairwise_cons hy hm)).elim
    subst e
    have : xs = ys := by
      refine rising_ext (List.pairwise_cons.mp hx).2 (List.pairwise_cons.mp hy).2 fun z => ⟨fun hz => ?_, fun hz => ?_⟩
      · rcases List.mem_cons.mp ((h z).mp (List.mem_cons_of_mem _ hz)) with e | hm
        · subst e; exact (slt_irr _ (List.rel_of_pairwise_cons hx hz)).elim
        · exact hm
      · rcases List.mem_cons.mp ((h z).mpr (List.mem_cons_of_mem _ hz)) with e | hm
        · subst e; exact (slt_irr _ (List.rel_of_pairwise_cons hy hz)).elim
        · exact hm
    rw [this]
/-! ### sums -/
abbrev Pr := Str × Int
/-- the share of a name in pairs, in any order -/
def shr (ps : List Pr) (x : Str) : Int := ((ps.filter fun p => decide (p.1 = x)).map (·.2)).sum
theorem shr_nil (x : Str) : shr [] x = 0 := rfl
theorem shr_cons (p : Pr) (ps : List Pr) (x : Str) : shr (p :: ps) x = (if p.1 = x then p.2 else 0) + shr ps x := by
  unfold shr
  by_cases h : p.1 = x
  · rw [List.filter_cons, if_pos (by simpa using h), if_pos h]; rfl
  · rw [List.filter_cons, if_neg (by simpa using h), if_neg h, Int.zero_add]
theorem shr_app (ps qs : List Pr) (x : Str) : shr (ps ++ qs) x = shr ps x + shr qs x := by
  unfold shr
  rw [List.filter_append, List.map_append, List.sum_append]
theorem shr_out {ps : List Pr} {x : Str} (h : x ∉ ps.map (·.1)) : shr ps x = 0 := by
  induction ps with
  | nil => rfl
  | cons p ps ih =>
    rw [List.map_cons, List.mem_cons, not_or] at h
    rw [shr_cons, if_neg (fun e => h.1 e.symm), ih h.2, Int.zero_add]
theorem shr_at {ps : List Pr} {p : Pr} (nd : (ps.map (·.1)).Nodup) (h : p ∈ ps) : shr ps p.1 = p.2 := by
  induction ps with
  | nil => cases h
  | cons q ps ih =>
    rw [List.map_cons] at nd
    have nd' := List.nodup_cons.mp nd
    rw [shr_cons]
    rcases List.mem_cons.mp h with rfl | h
    · rw [if_pos rfl, shr_out nd'.1, Int.add_zero]
    · rw [if_neg (fun e => nd'.1 (by rw [e]; exact List.mem_map_of_mem h)), ih nd'.2 h, Int.zero_add]
/-- the form of a sum's parts -/
structure Norm (ps : List Pr) : Prop where
  rise : Rising (ps.map (·.1))
  nz : ∀ p ∈ ps, p.2 ≠ 0
theorem Norm.mem_iff {ps : List Pr} (n : Norm ps) (x : Str) : x ∈ ps.map (·.1) ↔ shr ps x ≠ 0 := by
  constructor
  · intro h
    obtain ⟨p, hp, rfl⟩ := List.mem_map.mp h
    rw [shr_at n.rise.nodup hp]
    exact n.nz p hp
  · intro h
    by_cases c : x ∈ ps.map (·.1)
    · exact c
    · exact absurd (shr_out c) h
theorem pairs_of {ps : List Pr} (nd : (ps.map (·.1)).Nodup) : ps = (ps.map (·.1)).map fun x => (x, shr ps x) := by
  rw [List.map_map]
  refine (List.map_id ps).symm.trans (List.map_congr_left fun p hp => ?_)
  show p = (p.1, shr ps p.1)
  rw [shr_at nd hp]
theorem norm_ext {ps qs : List Pr} (n : Norm ps) (m : Norm qs) (h : ∀ x, shr ps x = shr qs x) : ps = qs := by
  have e : ps.map (·.1) = qs.map (·.1) := rising_ext n.rise m.rise fun x => by rw [n.mem_iff, m.mem_iff, h]
  rw [pairs_of n.rise.nodup, pairs_of m.rise.nodup, e]
  exact List.map_congr_left fun x _ => by rw [h]
/-- of rising names those with a share -/
def kept (xs : List Str) (f : Str → Int) : List Pr := (xs.filter fun x => decide (f x ≠ 0)).map fun x => (x, f x)
theorem kept_names (xs : List Str) (f : Str → Int) : (kept xs f).map (·.1) = xs.filter fun x => decide (f x ≠ 0) := by
  unfold kept
  rw [List.map_map]
  exact (List.map_congr_left fun x _ => rfl).trans (List.map_id _)
theorem kept_norm {xs : List Str} {f : Str → Int} (h : Rising xs) : Norm (kept xs f) where
  rise := by rw [kept_names]; exact List.Pairwise.sublist List.filter_sublist h
  nz := fun p hp => by
    unfold kept at hp
    obtain ⟨x, hx, rfl⟩ := List.mem_map.mp hp
    simpa using (List.mem_filter.mp hx).2
theorem kept_shr {xs : List Str} {f : Str → Int} (h : Rising xs) (hf : ∀ x, x ∉ xs → f x = 0) (x : Str) : shr (kept xs f) x = f x := by
  by_cases c : x ∈ (kept xs f).map (·.1)
  · obtain ⟨p, hp, rfl⟩ := List.mem_map.mp c
    rw [shr_at (kept_norm h).rise.nodup hp]
    unfold kept at hp
    obtain ⟨y, hy, rfl⟩ := List.mem_map.mp hp
    rfl
  · rw [shr_out c]
    rw [kept_names, List.mem_filter] at c
    by_cases d : x ∈ xs
    · by_cases e : f x = 0
      · exact e.symm
      · exact absurd ⟨d, by simpa using e⟩ c
    · exact (hf x d).symm
/-! ### data -/
def prT (p : Pr) : PyData := .tuple [.str p.1, .int p.2]
abbrev Sm := Int × List Pr
def sumD (s : Sm) : PyData := .tuple [.int s.1, .tuple (s.2.map prT)]
/-- data of ints, texts, True, None, tuples and lists, n deep at most -/
inductive Al : Nat → PyData → Prop
  | int {n : Nat} (i : Int) : Al n (.int i)
  | str {n : Nat} (x : Str) : Al n (.str x)
  | tru {n : Nat} : Al n (.bool true)
  | non {n : Nat} : Al n .none
  | tup {n : Nat} {ds : List PyData} : (∀ d ∈ ds, Al n d) → ds.length ≤ 1000 → Al (n + 1) (.tuple ds)
  | lst {n : Nat} {ds : List PyData} : (∀ d ∈ ds, Al n d) → ds.length ≤ 1000 → Al (n + 1) (.list ds)
theorem al_pair {n : Nat} (p : Pr) : Al (n + 1) (prT p) := by
  refine .tup (fun d hd => ?_) (by simp)
  rcases List.mem_cons.mp hd with rfl | hd
  · exact .str _
  · rcases List.mem_cons.mp hd with rfl | hd
    · exact .int _
    · cases hd
theorem al_sum {n : Nat} {s : Sm} (h : s.2.length ≤ 1000) : Al (n + 3) (sumD s) := by
  refine .tup (fun d hd => ?_) (by simp)
  rcases List.mem_cons.mp hd with rfl | hd
  · exact .int _
  · rcases List.mem_cons.mp hd with rfl | hd
    · refine .tup (fun d hd => ?_) (by rw [List.length_map]; exact h)
      obtain ⟨p, _, rfl⟩ := List.mem_map.mp hd
      exact al_pair p
    · cases hd
end XS
namespace L2
open PySem PySem.Spec PyProof.Rows XS
section
variable {K : PySem.W.Frag} {H H' : Hp}
/-! what stands keeps its data -/
mutual
theorem Dp.same (e : Same H H') : ∀ (d : PyData) (v : V), Dp K H v d → Dp K H' v d
  | .none, _, h => by cases h; exact .non
  | .bool b, _, h => by cases h; exact .bl b
  | .int i, _, h => by cases h; exact .int i
  | .str x, _, h => by cases h; exact .str x
  | .list ds, _, h => by
    cases h with
    | lst hs ha => exact .lst (e.seq hs) (DpAll.same e ds _ ha)
  | .tuple ds, _, h => by
    cases h with
    | tup hs ha => exact .tup (e.seqT hs) (DpAll.same e ds _ ha)
  | .dict _, _, h => by cases h
theorem DpAll.same (e : Same H H') : ∀ (ds : List PyData) (vs : List V), DpAll K H vs ds → DpAll K H' vs ds
  | [], _, h => by cases h; exact .nil
  | d :: ds, _, h => by
    cases h with
    | cons h1 h2 => exact .cons (Dp.same e d _ h1) (DpAll.same e ds _ h2)
end
theorem DpAll.len : ∀ {vs : List V} {ds : List PyData}, DpAll K H vs ds → vs.length = ds.length
  | [], _, h => by cases h; rfl
  | v :: vs, _, h => by
    cases h with
    | cons h1 h2 => rw [List.length_cons, List.length_cons, DpAll.len h2]
theorem DpAll.get : ∀ {vs : List V} {ds : List PyData} {i : Nat} {d : PyData}, DpAll K H vs ds → ds[i]? = some d → ∃ v, vs[i]? = some v ∧ Dp K H v d
  | [], _, i, d, h, e => by cases h; simp at e
  | v :: vs, _, 0, d, h, e => by
    cases h with
    | cons h1 h2 =>
      simp at e
      subst e
      exact ⟨v, rfl, h1⟩
  | v :: vs, _, i + 1, d, h, e => by
    cases h with
    | cons h1 h2 =>
      obtain ⟨u, q1, q2⟩ := DpAll.get (i := i) (d := d) h2 (by simpa using e)
      exact ⟨u, by simpa using q1, q2⟩
theorem DpAll.getV : ∀ {vs : List V} {ds : List PyData} {i : Nat} {v : V}, DpAll K H vs ds → vs[i]? = some v → ∃ d, ds[i]? = some d ∧ Dp K H v d
  | [], _, i, d, h, e => by simp at e
  | v :: vs, _, 0, d, h, e => by
    cases h with
    | cons h1 h2 =>
      simp at e
      subst e
      exact ⟨_, rfl, h1⟩
  | v :: vs, _, i + 1, d, h, e => by
    cases h with
    | cons h1 h2 =>
      obtain ⟨u, q1, q2⟩ := DpAll.getV (i := i) h2 (by simpa using e)
      exact ⟨u, by simpa using q1, q2⟩
theorem DpAll.app : ∀ {vs ws : List V} {ds es : List PyData}, DpAll K H vs ds → DpAll K H ws es → DpAll K H (vs ++ ws) (ds ++ es)
  | [], _, _, _, h, g => by cases h; exact g
  | v :: vs, _, _, _, h, g => by
    cases h with
    | cons h1 h2 => exact .cons h1 (DpAll.app h2 g)
theorem DpAll.one {v : V} {d : PyData} (h : Dp K H v d) : DpAll K H [v] [d] := .cons h .nil
end
end L2
namespace XS
open PySem PySem.Spec PyProof.Rows L2
section
variable {K : PySem.W.Frag} {H H' : Hp}
/-- the kinds of objects -/
theorem tyx_T {a : Addr} {xs : List V} (h : SqT K H a xs) : TyX K H (.ref a) (.type "tuple") := by
  rcases h with (h | ⟨o, h⟩) | ⟨o, its, n, h, hc, _⟩
  · exact .base (.tup h)
  · exact .fTuple h
  · exact .kTuple h hc
theorem tyx_L {a : Addr} {xs : List V} (h : SqL K H a xs) : TyX K H (.ref a) (.type "list") := by
  rcases h with (h | ⟨o, h⟩) | ⟨o, its, n, h, hc, _⟩
  · exact .base (.lst h)
  · exact .base (.frz h)
  · exact .kList h hc
end
/-- x is True, False -/
def rIsC : R2 := fun x y H Q => ∃ b, y = .bl b ∧ Q (.bl (decide (x = .bl b))) H
theorem op_isC {X : Cx} : OpR X (compareOp .Is) rIsC := by
  intro pins s σ H x y v u Q I rx ry h
  obtain ⟨b, rfl, q⟩ := h
  cases (show u = Value.bool b from ry)
  have fin : ∀ k, decide (x = V.bl b) = k → wpAny (model X.prog X.w) X.A (pure (Value.bool k)) (EP X pins σ Q) X.xe s := fun k e => wpAny_pure ⟨.bl k, H, I, rfl, by rw [← e]; exact q⟩
  cases x with
  | non => cases rx; exact fin false (by simp)
  | bl a =>
    cases rx
    have e : (Value.bool a == Value.bool b) = decide (V.bl a = V.bl b) := by cases a <;> cases b <;> rfl
    show wpAny _ _ (pure (Value.bool (Value.bool a == Value.bool b))) _ _ _
    rw [e]
    exact fin _ rfl
  | int i => obtain ⟨t, rfl⟩ := rx; exact fin false (by simp)
  | str i => obtain ⟨t, rfl⟩ := rx; exact fin false (by simp)
  | byt i => obtain ⟨t, rfl⟩ := rx; exact fin false (by simp)
  | flt i => obtain ⟨t, rfl⟩ := rx; exact fin false (by simp)
  | ref i => cases rx; exact fin false (by simp)
  | ty i => cases rx; exact fin false (by simp)
end XS

namespace XS
open PySem PySem.Spec PyProof.Rows L2
/-! ### data that never changes: tuples, ints, texts -/
inductive Im : PyData → Prop
  | int (i : Int) : Im (.int i)
  | str (x : Str) : Im (.str x)
  | bl (b : Bool) : Im (.bool b)
  | non : Im .none
  | tup {ds : List PyData} : (∀ d ∈ ds, Im d) → Im (.tuple ds)
theorem im_pair (p : Pr) : Im (prT p) := by
  refine .tup fun d hd => ?_
  rcases List.mem_cons.mp hd with rfl | hd
  · exact .str _
  · rcases List.mem_cons.mp hd with rfl | hd
    · exact .int _
    · cases hd
theorem im_tup2 {a b : PyData} (ha : Im a) (hb : Im b) : Im (.tuple [a, b]) := by
  refine .tup fun d hd => ?_
  rcases List.mem_cons.mp hd with rfl | hd
  · exact ha
  · rcases List.mem_cons.mp hd with rfl | hd
    · exact hb
    · cases hd
theorem im_map {α : Type} {l : List α} {f : α → PyData} (h : ∀ x ∈ l, Im (f x)) : Im (.tuple (l.map f)) := .tup fun d hd => by
  obtain ⟨x, hx, rfl⟩ := List.mem_map.mp hd
  exact h x hx
theorem im_sum (s : Sm) : Im (sumD s) := im_tup2 (.int _) (im_map fun p _ => im_pair p)
/-- what never changes stands -/
def Keeps (H H' : Hp) : Prop := ∀ a u, (∃ xs, u = HO.tup xs) ∨ (∃ o w, u = HO.frz o w) → H a = some u → H' a = some u
theorem Keeps.refl (H : Hp) : Keeps H H := fun _ _ _ h => h
theorem Keeps.trans {H H1 H2 : Hp} (a : Keeps H H1) (b : Keeps H1 H2) : Keeps H H2 := fun x u k h => b x u k (a x u k h)
theorem _root_.L2.Same.keeps {H H' : Hp} (e : Same H H') : Keeps H H' := fun a u _ h => e a u h
theorem keeps_lst {H : Hp} {p : Addr} {xs ys : List V} (h : H p = some (.lst xs)) : Keeps H (upd H p (.lst ys)) := fun a u k e => by
  rw [upd_ne (fun z => ?_)]
  · exact e
  · subst z
    rw [h] at e
    cases e
    rcases k with ⟨_, k⟩ | ⟨_, _, k⟩ <;> cases k
theorem keeps_dk {H : Hp} {p : Addr} {xs ys : List (Key × V)} (h : H p = some (.dK xs)) : Keeps H (upd H p (.dK ys)) := fun a u k e => by
  rw [upd_ne (fun z => ?_)]
  · exact e
  · subst z
    rw [h] at e
    cases e
    rcases k with ⟨_, k⟩ | ⟨_, _, k⟩ <;> cases k
theorem Keeps.seqT {K : PySem.W.Frag} {H H' : Hp} {a : Addr} {xs : List V} (e : Keeps H H') (h : SqT K H a xs) : SqT K H' a xs := by
  rcases h with (h | ⟨o, h⟩) | h
  · exact .inl (.inl (e _ _ (.inl ⟨_, rfl⟩) h))
  · exact .inl (.inr ⟨o, e _ _ (.inr ⟨_, _, rfl⟩) h⟩)
  · exact .inr h
end XS
namespace L2
open PySem PySem.Spec PyProof.Rows XS
section
variable {K : PySem.W.Frag} {H H' : Hp}
mutual
theorem Dp.keeps (e : Keeps H H') : ∀ (d : PyData) (v : V), Im d → Dp K H v d → Dp K H' v d
  | .none, _, _, h => by cases h; exact .non
  | .bool b, _, _, h => by cases h; exact .bl b
  | .int i, _, _, h => by cases h; exact .int i
  | .str x, _, _, h => by cases h; exact .str x
  | .list ds, _, i, h => by cases i
  | .tuple ds, _, i, h => by
    cases h with
    | tup hs ha =>
      cases i with
      | tup i => exact .tup (XS.Keeps.seqT e hs) (DpAll.keeps e ds _ i ha)
  | .dict _, _, _, h => by cases h
theorem DpAll.keeps (e : Keeps H H') : ∀ (ds : List PyData) (vs : List V), (∀ d ∈ ds, Im d) → DpAll K H vs ds → DpAll K H' vs ds
  | [], _, _, h => by cases h; exact .nil
  | d :: ds, _, i, h => by
    cases h with
    | cons h1 h2 => exact .cons (Dp.keeps e d _ (i d (List.mem_cons_self ..)) h1) (DpAll.keeps e ds _ (fun z hz => i z (List.mem_cons_of_mem _ hz)) h2)
end
/-- pairs, sums as they stand -/
theorem Dp.pair {v : V} {p : Pr} (h : Dp K H v (prT p)) : ∃ b, v = .ref b ∧ SqT K H b [.str p.1, .int p.2] := by
  unfold prT at h
  cases h with
  | tup hs ha =>
    cases ha with
    | cons h1 h2 =>
      cases h2 with
      | cons h2 h3 =>
        cases h3
        cases h1
        cases h2
        exact ⟨_, rfl, hs⟩
theorem Dp.mkPair {b : Addr} {p : Pr} (h : SqT K H b [.str p.1, .int p.2]) : Dp K H (.ref b) (prT p) := .tup h (.cons (.str _) (.cons (.int _) .nil))
theorem Dp.sum {v : V} {s : Sm} (h : Dp K H v (sumD s)) : ∃ a b vs, v = .ref a ∧ SqT K H a [.int s.1, .ref b] ∧ SqT K H b vs ∧ DpAll K H vs (s.2.map prT) := by
  unfold sumD at h
  cases h with
  | tup hs ha =>
    cases ha with
    | cons h1 h2 =>
      cases h2 with
      | cons h2 h3 =>
        cases h3
        cases h1
        cases h2 with
        | tup hb hc => exact ⟨_, _, _, rfl, hs, hb, hc⟩
theorem Dp.mkSum {a b : Addr} {vs : List V} {s : Sm} (h1 : SqT K H a [.int s.1, .ref b]) (h2 : SqT K H b vs) (h3 : DpAll K H vs (s.2.map prT)) : Dp K H (.ref a) (sumD s) :=
  .tup h1 (.cons (.int _) (.cons (.tup h2 h3) .nil))
theorem DpAll.ints : ∀ {vs : List V} {ns : List Int}, DpAll K H vs (ns.map PyData.int) → vs = ns.map V.int
  | [], [], _ => rfl
  | [], n :: _, h => by cases h
  | v :: vs, [], h => by cases h
  | v :: vs, n :: ns, h => by
    cases h with
    | cons h1 h2 =>
      cases h1
      rw [DpAll.ints h2]
      rfl
theorem DpAll.strs : ∀ {vs : List V} {ns : List Str}, DpAll K H vs (ns.map PyData.str) → vs = ns.map V.str
  | [], [], _ => rfl
  | [], n :: _, h => by cases h
  | v :: vs, [], h => by cases h
  | v :: vs, n :: ns, h => by
    cases h with
    | cons h1 h2 =>
      cases h1
      rw [DpAll.strs h2]
      rfl
theorem DpAll.ofInts : ∀ (ns : List Int), DpAll K H (ns.map V.int) (ns.map PyData.int)
  | [] => .nil
  | n :: ns => .cons (.int n) (DpAll.ofInts ns)
theorem DpAll.ofStrs : ∀ (ns : List Str), DpAll K H (ns.map V.str) (ns.map PyData.str)
  | [] => .nil
  | n :: ns => .cons (.str n) (DpAll.ofStrs ns)
end
end L2
namespace XS
open PySem PySem.Spec PyProof.Rows L2
/-! ### comprehensions: what is built of immutable data -/
def LcJ (J : It) (g : TG) (tt : TT) (te : TE) (vs : List Nat) : TE := tLc (fun _ H' R => R J H') g tt te vs
section
variable {K : PySem.W.Frag} {σ : L2.St} {H : Hp} {te : TE} {tt : TT} {g : TG} {vs : List Nat} {Q : VK} {α : Type}
theorem x_tyes {k : Bool → Hp → Prop} (h : k true H) : tYes σ H k := h
theorem x_lc {wi : TI} (h : wi σ H fun J H1 => LcJ J g tt te vs σ H1 Q) : tLc wi g tt te vs σ H Q := h
/-- the list so far -/
def LcAt (K : PySem.W.Frag) (H : Hp) (Dl : Addr) (ds : List PyData) (H' : Hp) : Prop := H Dl = none ∧ Same H H' ∧ ∃ acc, H' Dl = some (.lst acc) ∧ DpAll K H' acc ds
theorem lcAt_more {Dl : Addr} {ds : List PyData} {H' H4 : Hp} {y : V} {d : PyData} (a : LcAt K H Dl ds H') (e : Same H' H4) (hd : Dp K H4 y d) (im : Im d) (ims : ∀ d ∈ ds, Im d) (hz : ds.length < 100000) :
    ∃ acc, H4 Dl = some (.lst acc) ∧ acc.length < sizeLine ∧ LcAt K H Dl (ds ++ [d]) (upd H4 Dl (.lst (acc ++ [y]))) := by
  obtain ⟨a1, a2, acc, a3, a4⟩ := a
  have k := keeps_lst (ys := acc ++ [y]) (e _ _ a3)
  refine ⟨acc, e _ _ a3, szl (by have := a4.len; omega), a1, same_mut (a2.trans e) a1, acc ++ [y], upd_same, ?_⟩
  exact (DpAll.keeps k ds acc ims (DpAll.same e ds acc a4)).app (.one (Dp.keeps k d y im hd))
theorem take_more {l : List α} {i : Nat} {x : α} (h : l[i]? = some x) : l.take (i + 1) = l.take i ++ [x] := by
  rw [List.take_add_one, h]
  rfl
theorem map_at {β : Type} {zs : List α} {emb : α → β} {i : Nat} {x : β} (h : (zs.map emb)[i]? = some x) : ∃ z, zs[i]? = some z ∧ x = emb z := by
  rw [List.getElem?_map] at h
  cases e : zs[i]? with
  | none => rw [e] at h; cases h
  | some z => rw [e] at h; exact ⟨z, rfl, (Option.some.inj h).symm⟩
/-- one turn, with the continuations left open -/
def LcTurn (K : PySem.W.Frag) (H : Hp) (g : TG) (tt : TT) (te : TE) (σ : L2.St) (vs : List Nat) (x : V) (b : Bool) (d : PyData) : Prop :=
  ∀ (H' : Hp) (Yes : V → Hp → Prop) (No : Hp → Prop), Same H H' → (∀ y H4, Same H' H4 → b = true → Dp K H4 y d → Yes y H4) → (∀ H4, Same H' H4 → b = false → No H4) →
    g x (wipe σ vs) H' fun σ2 H2 => wipe σ2 vs = wipe σ vs ∧ tt σ2 H2 fun b H3 => if b = true then te σ2 H3 Yes else No H3
theorem x_lcL {p : Addr} (zs : List α) (emb : α → V) (f : α → Bool) (dd : α → PyData) (hx : SqL K H p (zs.map emb)) (hz : zs.length < 50000) (im : ∀ z, Im (dd z))
    (turn : ∀ z ∈ zs, LcTurn K H g tt te σ vs (emb z) (f z) (dd z))
    (done : ∀ Dl H' acc, H Dl = none → Same H H' → H' Dl = some (.lst acc) → DpAll K H' acc ((zs.filter f).map dd) → Q (.ref Dl) H') :
    ∃ a, V.ref p = .ref a ∧ (∃ xs, SqL K H a xs) ∧ LcJ (Itl K a) g tt te vs σ H Q := by
  refine ⟨p, rfl, ⟨_, hx⟩, fun Dl hD => lc_list (K := K) (a := p) (xs := zs.map emb) (fun i H' => LcAt K H Dl (((zs.take i).filter f).map dd) H')
    ⟨hD, same_upd hD, [], upd_same, .nil⟩ (fun i H' _ a => a.2.1.seq hx) (fun i x H' hi a => ?_) (fun H' a => ?_)⟩
  · obtain ⟨z, hz1, rfl⟩ := map_at hi
    have hl : (((zs.take i).filter f).map dd).length < 100000 := by
      rw [List.length_map]
      have h1 := List.length_filter_le f (zs.take i)
      rw [List.length_take] at h1
      omega
    refine turn z (List.mem_of_getElem? hz1) H' _ _ a.2.1 (fun y H4 e hf hd => ?_) (fun H4 e hf => ?_)
    · have := lcAt_more a e hd (im z) (fun d hd => by obtain ⟨q, _, rfl⟩ := List.mem_map.mp hd; exact im q) hl
      rw [take_more hz1, List.filter_append, List.map_append, List.filter_cons, if_pos hf]
      exact this
    · rw [take_more hz1, List.filter_append, List.map_append, List.filter_cons, if_neg (by rw [hf]; exact Bool.false_ne_true)]
      show LcAt K H Dl (_ ++ []) H4
      rw [List.append_nil]
      obtain ⟨a1, a2, acc, a3, a4⟩ := a
      exact ⟨a1, a2.trans e, acc, e _ _ a3, DpAll.same e _ _ a4⟩
  · obtain ⟨a1, a2, acc, a3, a4⟩ := a
    rw [List.length_map, List.take_length] at a4
    exact done Dl H' acc a1 a2 a3 a4
theorem x_lcT {p : Addr} (zs : List α) (ws : List V) (f : α → Bool) (dd : α → PyData) (hx : SqT K H p ws) (hl : ws.length = zs.length) (hz : zs.length < 50000) (im : ∀ z, Im (dd z))
    (turn : ∀ (i : Nat) (z : α) (w : V), zs[i]? = some z → ws[i]? = some w → LcTurn K H g tt te σ vs w (f z) (dd z))
    (done : ∀ Dl H' acc, H Dl = none → Same H H' → H' Dl = some (.lst acc) → DpAll K H' acc ((zs.filter f).map dd) → Q (.ref Dl) H') :
    ∃ a, V.ref p = .ref a ∧ (∃ xs, SqT K H a xs) ∧ LcJ (Itt K a) g tt te vs σ H Q := by
  refine ⟨p, rfl, ⟨_, hx⟩, fun Dl hD => lc_tup (K := K) (a := p) (xs := ws) (fun i H' => LcAt K H Dl (((zs.take i).filter f).map dd) H')
    ⟨hD, same_upd hD, [], upd_same, .nil⟩ (fun i H' _ a => a.2.1.seqT hx) (fun i x H' hi a => ?_) (fun H' a => ?_)⟩
  · have hlt : i < zs.length := by rw [← hl]; exact (List.getElem?_eq_some_iff.mp hi).1
    have hz1 : zs[i]? = some zs[i] := List.getElem?_eq_getElem hlt
    have hl : (((zs.take i).filter f).map dd).length < 100000 := by
      rw [List.length_map]
      have h1 := List.length_filter_le f (zs.take i)
      rw [List.length_take] at h1
      omega
    refine turn i zs[i] x hz1 hi H' _ _ a.2.1 (fun y H4 e hf hd => ?_) (fun H4 e hf => ?_)
    · have := lcAt_more a e hd (im zs[i]) (fun d hd => by obtain ⟨q, _, rfl⟩ := List.mem_map.mp hd; exact im q) hl
      rw [take_more hz1, List.filter_append, List.map_append, List.filter_cons, if_pos hf]
      exact this
    · rw [take_more hz1, List.filter_append, List.map_append, List.filter_cons, if_neg (by rw [hf]; exact Bool.false_ne_true)]
      show LcAt K H Dl (_ ++ []) H4
      rw [List.append_nil]
      obtain ⟨a1, a2, acc, a3, a4⟩ := a
      exact ⟨a1, a2.trans e, acc, e _ _ a3, DpAll.same e _ _ a4⟩
  · obtain ⟨a1, a2, acc, a3, a4⟩ := a
    rw [hl, List.take_length] at a4
    exact done Dl H' acc a1 a2 a3 a4
theorem x_lcW {p : Addr} (zs : List α) (ws : List V) (f : α → Bool) (dd : α → PyData) (hx : SqL K H p ws) (hl : ws.length = zs.length) (hz : zs.length < 50000) (im : ∀ z, Im (dd z))
    (turn : ∀ (i : Nat) (z : α) (w : V), zs[i]? = some z → ws[i]? = some w → LcTurn K H g tt te σ vs w (f z) (dd z))
    (done : ∀ Dl H' acc, H Dl = none → Same H H' → H' Dl = some (.lst acc) → DpAll K H' acc ((zs.filter f).map dd) → Q (.ref Dl) H') :
    ∃ a, V.ref p = .ref a ∧ (∃ xs, SqL K H a xs) ∧ LcJ (Itl K a) g tt te vs σ H Q := by
  refine ⟨p, rfl, ⟨_, hx⟩, fun Dl hD => lc_list (K := K) (a := p) (xs := ws) (fun i H' => LcAt K H Dl (((zs.take i).filter f).map dd) H')
    ⟨hD, same_upd hD, [], upd_same, .nil⟩ (fun i H' _ a => a.2.1.seq hx) (fun i x H' hi a => ?_) (fun H' a => ?_)⟩
  · have hlt : i < zs.length := by rw [← hl]; exact (List.getElem?_eq_some_iff.mp hi).1
    have hz1 : zs[i]? = some zs[i] := List.getElem?_eq_getElem hlt
    have hl : (((zs.take i).filter f).map dd).length < 100000 := by
      rw [List.length_map]
      have h1 := List.length_filter_le f (zs.take i)
      rw [List.length_take] at h1
      omega
    refine turn i zs[i] x hz1 hi H' _ _ a.2.1 (fun y H4 e hf hd => ?_) (fun H4 e hf => ?_)
    · have := lcAt_more a e hd (im zs[i]) (fun d hd => by obtain ⟨q, _, rfl⟩ := List.mem_map.mp hd; exact im q) hl
      rw [take_more hz1, List.filter_append, List.map_append, List.filter_cons, if_pos hf]
      exact this
    · rw [take_more hz1, List.filter_append, List.map_append, List.filter_cons, if_neg (by rw [hf]; exact Bool.false_ne_true)]
      show LcAt K H Dl (_ ++ []) H4
      rw [List.append_nil]
      obtain ⟨a1, a2, acc, a3, a4⟩ := a
      exact ⟨a1, a2.trans e, acc, e _ _ a3, DpAll.same e _ _ a4⟩
  · obtain ⟨a1, a2, acc, a3, a4⟩ := a
    rw [hl, List.take_length] at a4
    exact done Dl H' acc a1 a2 a3 a4
theorem x_lcR1 {n : Int} (f : Nat → Bool) (dd : Nat → PyData) (hb : 0 ≤ n ∧ n < 50000) (im : ∀ z, Im (dd z))
    (turn : ∀ z : Nat, (z : Int) < n → LcTurn K H g tt te σ vs (.int z) (f z) (dd z))
    (done : ∀ Dl H' acc, H Dl = none → Same H H' → H' Dl = some (.lst acc) → DpAll K H' acc (((List.range n.toNat).filter f).map dd) → Q (.ref Dl) H') :
    ∃ j : Int, [V.int n] = [.int j] ∧ -(2 ^ 62) ≤ j ∧ j < 2 ^ 62 ∧ LcJ (Itr 0 j.toNat) g tt te vs σ H Q := by
  refine ⟨n, rfl, by omega, by omega, fun Dl hD => lc_range (lo := 0) (n := n.toNat) (fun i H' => LcAt K H Dl (((List.range i).filter f).map dd) H')
    ⟨hD, same_upd hD, [], upd_same, .nil⟩ (fun i H' hi a => ?_) (fun H' a => ?_)⟩
  · have hl : (((List.range i).filter f).map dd).length < 100000 := by
      rw [List.length_map]
      have h1 := List.length_filter_le f (List.range i)
      rw [List.length_range] at h1
      omega
    rw [Int.zero_add]
    refine turn i (by omega) H' _ _ a.2.1 (fun y H4 e hf hd => ?_) (fun H4 e hf => ?_)
    · have := lcAt_more a e hd (im i) (fun d hd => by obtain ⟨q, _, rfl⟩ := List.mem_map.mp hd; exact im q) hl
      rw [List.range_succ, List.filter_append, List.map_append, List.filter_cons, if_pos hf]
      exact this
    · rw [List.range_succ, List.filter_append, List.map_append, List.filter_cons, if_neg (by rw [hf]; exact Bool.false_ne_true)]
      show LcAt K H Dl (_ ++ []) H4
      rw [List.append_nil]
      obtain ⟨a1, a2, acc, a3, a4⟩ := a
      exact ⟨a1, a2.trans e, acc, e _ _ a3, DpAll.same e _ _ a4⟩
  · obtain ⟨a1, a2, acc, a3, a4⟩ := a
    exact done Dl H' acc a1 a2 a3 a4
/-- a comprehension's block ends where it began -/
theorem x_lcNo {k : Bool → Hp → Prop} {σ2 : L2.St} {A : Prop} (h1 : A) (h : k true H) : A ∧ tYes σ2 H k := ⟨h1, h⟩
end
/-! ### dicts from texts to ints -/
def dOf (m : List Pr) : List (Key × V) := m.map fun p => (Sum.inr p.1, V.int p.2)
def getP (m : List Pr) (x : Str) : Option Int := (m.find? fun p => decide (p.1 = x)).map (·.2)
def putP (m : List Pr) (x : Str) (v : Int) : List Pr := if (m.any fun p => decide (p.1 = x)) = true then m.map (fun p => if p.1 = x then (p.1, v) else p) else m ++ [(x, v)]
theorem dOf_keys (m : List Pr) : (dOf m).map (·.1) = (m.map (·.1)).map Sum.inr := by
  unfold dOf
  rw [List.map_map, List.map_map]
  rfl
theorem dOf_len (m : List Pr) : (dOf m).length = m.length := List.length_map _
theorem inr_dec (x y : Str) : decide ((Sum.inr x : Key) = Sum.inr y) = decide (x = y) := by
  by_cases e : x = y
  · subst e; simp
  · rw [decide_eq_false e, decide_eq_false (fun q => e (Sum.inr.inj q))]
theorem dOf_val (m : List Pr) (x : Str) : valV (dOf m) (Sum.inr x : Key) = (getP m x).map V.int := by
  unfold valV dOf getP
  rw [List.find?_map]
  have : ((fun kv : Key × V => decide (kv.1 = Sum.inr x)) ∘ fun p : Pr => ((Sum.inr p.1 : Key), V.int p.2)) = fun p : Pr => decide (p.1 = x) := by
    funext p
    exact inr_dec _ _
  rw [this, Option.map_map, Option.map_map]
  rfl
theorem dOf_put (m : List Pr) (x : Str) (v : Int) : putK (dOf m) (Sum.inr x : Key) (V.int v) = dOf (putP m x v) := by
  unfold putK putP dOf
  have : ((List.map (fun p : Pr => ((Sum.inr p.1 : Key), V.int p.2)) m).any fun kv => decide (kv.1 = Sum.inr x)) = m.any fun p => decide (p.1 = x) := by
    rw [List.any_map]
    congr 1
    funext p
    exact inr_dec _ _
  rw [this]
  split
  · rw [List.map_map, List.map_map]
    refine List.map_congr_left fun p _ => ?_
    show (if (Sum.inr p.1 : Key) = Sum.inr x then _ else _) = _
    by_cases e : p.1 = x
    · rw [if_pos (by rw [e])]
      show _ = (Sum.inr (if p.1 = x then (p.1, v) else p).1, V.int (if p.1 = x then (p.1, v) else p).2)
      rw [if_pos e]
    · rw [if_neg (fun q => e (Sum.inr.inj q))]
      show _ = (Sum.inr (if p.1 = x then (p.1, v) else p).1, V.int (if p.1 = x then (p.1, v) else p).2)
      rw [if_neg e]
  · rw [List.map_append]
    rfl
theorem getP_any (m : List Pr) (x : Str) : (m.any fun p => decide (p.1 = x)) = decide (x ∈ m.map (·.1)) := by
  rw [Bool.eq_iff_iff]
  simp only [List.any_eq_true, decide_eq_true_eq, List.mem_map]
  
theorem putP_names (m : List Pr) (x : Str) (v : Int) : (putP m x v).map (·.1) = if x ∈ m.map (·.1) then m.map (·.1) else m.map (·.1) ++ [x] := by
  unfold putP
  rw [getP_any]
  by_cases e : x ∈ m.map (·.1)
  · rw [if_pos (by simpa using e), if_pos e, List.map_map]
    refine List.map_congr_left fun p _ => ?_
    show (if p.1 = x then (p.1, v) else p).1 = p.1
    split <;> rfl
  · rw [if_neg (by simpa using e), if_neg e, List.map_append]
    rfl
theorem putP_nd {m : List Pr} {x : Str} {v : Int} (nd : (m.map (·.1)).Nodup) : ((putP m x v).map (·.1)).Nodup := by
  rw [putP_names]
  split
  · exact nd
  · rename_i h
    refine List.nodup_append.mpr ⟨nd, by simp, fun a ha b hb => ?_⟩
    simp at hb
    subst hb
    intro e
    subst e
    exact h ha
theorem putP_len (m : List Pr) (x : Str) (v : Int) : (putP m x v).length ≤ m.length + 1 := by
  have := congrArg List.length (putP_names m x v)
  rw [List.length_map] at this
  rw [this]
  split
  · rw [List.length_map]; omega
  · rw [List.length_append, List.length_map]; exact Nat.le_refl _
theorem getP_put (m : List Pr) (x y : Str) (v : Int) : getP (putP m x v) y = if y = x then some v else getP m y := by
  have h := valV_put (dOf m) (Sum.inr x : Key) (Sum.inr y) (V.int v)
  rw [dOf_put, dOf_val, dOf_val] at h
  by_cases e : y = x
  · rw [if_pos (by rw [e])] at h
    rw [if_pos e]
    cases q : getP (putP m x v) y with
    | none => rw [q] at h; cases h
    | some z => rw [q] at h; cases h; rfl
  · rw [if_neg (fun q => e (Sum.inr.inj q))] at h
    rw [if_neg e]
    cases q : getP (putP m x v) y with
    | none =>
      rw [q] at h
      cases q2 : getP m y with
      | none => rfl
      | some z => rw [q2] at h; cases h
    | some z =>
      rw [q] at h
      cases q2 : getP m y with
      | none => rw [q2] at h; cases h
      | some z2 => rw [q2] at h; cases h; rfl
theorem getP_some {m : List Pr} {x : Str} : (getP m x).isSome = decide (x ∈ m.map (·.1)) := by
  rw [← getP_any]
  unfold getP
  rw [Option.isSome_map]
  induction m with
  | nil => rfl
  | cons p m ih =>
    rw [List.find?_cons, List.any_cons]
    cases h : decide (p.1 = x) with
    | true => rfl
    | false => rw [Bool.false_or]; exact ih
section
variable {K : PySem.W.Frag} {σ : L2.St} {H : Hp} {td ty tx tv : TE} {Q : VK} {D : Ends} {u : TS}
theorem x_dput (h : tv σ H fun v H1 => td σ H1 fun x H2 => ty σ H2 fun y H3 => ∃ a H4, x = .ref a ∧ DPut H3 a y v H4 ∧ D.nx σ H4) : sDPut td ty tv D σ H := h
theorem x_sdput (h : tv σ H fun v H1 => td σ H1 fun x H2 => ty σ H2 fun y H3 => ∃ a H4, x = .ref a ∧ DPut H3 a y v H4 ∧ u D σ H4) : tSeq (sDPut td ty tv) u D σ H := h
theorem x_dget2 (h : td σ H fun x H1 => ∃ a, x = .ref a ∧ IsD H1 a ∧ ty σ H1 fun y H2 => tx σ H2 fun z H3 => ∃ o, DGet H3 a y o ∧ Q (o.getD z) H3) : tDGet2 td ty tx σ H Q := h
theorem x_dget (h : td σ H fun x H1 => ty σ H1 fun y H2 => ∃ a v, x = .ref a ∧ DGet H2 a y (some v) ∧ Q v H2) : tDGet td ty σ H Q := h
theorem x_dnew (h : ∀ p, H p = none → Q (.ref p) (upd H p (.dK []))) : tDNewK σ H Q := h
theorem x_din (h : ty σ H fun y H1 => td σ H1 fun x H2 => ∃ a o, x = .ref a ∧ DGet H2 a y o ∧ Q (.bl o.isSome) H2) : tDIn ty td σ H Q := h
theorem x_dnotin (h : ty σ H fun y H1 => td σ H1 fun x H2 => ∃ a o, x = .ref a ∧ DGet H2 a y o ∧ Q (.bl (!o.isSome)) H2) : tDNotIn ty td σ H Q := h
end
end XS
namespace XS
open PySem PySem.Spec PyProof.Rows L2
/-- the shares so far -/
structure Shares (ps m : List Pr) : Prop where
  nd : (m.map (·.1)).Nodup
  mem : ∀ x, x ∈ m.map (·.1) ↔ x ∈ ps.map (·.1)
  val : ∀ x, (getP m x).getD 0 = shr ps x
  len : m.length ≤ ps.length
theorem Shares.nil : Shares [] [] := ⟨List.nodup_nil, fun x => Iff.rfl, fun x => rfl, Nat.le_refl _⟩
theorem Shares.more {ps m : List Pr} {p : Pr} (S : Shares ps m) : Shares (ps ++ [p]) (putP m p.1 ((getP m p.1).getD 0 + p.2)) := by
  refine ⟨putP_nd S.nd, fun x => ?_, fun x => ?_, ?_⟩
  · rw [putP_names, List.map_append, List.mem_append, ← S.mem x]
    split
    · rename_i h
      constructor
      · exact .inl
      · rintro (h2 | h2)
        · exact h2
        · simp at h2
          subst h2
          exact h
    · rw [List.mem_append]
      rfl
  · rw [getP_put, shr_app, shr_cons, shr_nil, Int.add_zero]
    by_cases e : x = p.1
    · subst e
      rw [if_pos rfl, if_pos rfl, ← S.val]
      rfl
    · rw [if_neg e, if_neg (fun q => e q.symm), S.val, Int.add_zero]
  · have h1 := putP_len m p.1 ((getP m p.1).getD 0 + p.2)
    have h2 := S.len
    rw [List.length_append]
    show _ ≤ ps.length + 1
    omega
theorem Shares.keptOf {ps m : List Pr} {ys : List Str} (S : Shares ps m) (hp : ys.Perm (m.map (·.1))) (hs : sortedS ys = true) : Norm (kept ys (shr ps)) ∧ (∀ x, shr (kept ys (shr ps)) x = shr ps x) ∧ ∀ x ∈ (kept ys (shr ps)).map (·.1), x ∈ ps.map (·.1) := by
  have r : Rising ys := rising_of (hp.nodup_iff.mpr S.nd) hs
  refine ⟨kept_norm r, fun x => kept_shr r (fun y hy => shr_out fun h => hy (hp.mem_iff.mpr ((S.mem y).mpr h))) x, fun x hx => ?_⟩
  rw [kept_names] at hx
  exact (S.mem x).mp (hp.mem_iff.mp (List.mem_filter.mp hx).1)
end XS

namespace XS
open PySem PySem.Spec PyProof.Rows L2
/-- the built-in names are not hidden by the module -/
structure Bl (mg : Str → Option Value) : Prop where
  ValueError : mg "ValueError" = none
  len : mg "len" = none
  isinstance : mg "isinstance" = none
  int : mg "int" = none
  str : mg "str" = none
  bool : mg "bool" = none
  list : mg "list" = none
  tuple : mg "tuple" = none
  dict : mg "dict" = none
  set : mg "set" = none
  range : mg "range" = none
  sorted : mg "sorted" = none
  sum : mg "sum" = none
/-- the script's cell, 0 behind its end -/
def cell (ns : List Int) (k : Int) : Int := if k < ns.length then ns.getD k.toNat 0 else 0
def sp_cell_at (K : PySem.W.Frag) : Sp := fun vs H Q _ => ∃ (a : Addr) (ns : List Int) (k : Int), vs = [.ref a, .int k] ∧ 0 ≤ k ∧ SqL K H a (ns.map V.int) ∧ Q (.int (cell ns k)) H
theorem atI_map {ns : List Int} {k : Int} (h0 : 0 ≤ k) (h : k < ns.length) : atI (ns.map V.int) k = some (.int (ns.getD k.toNat 0)) := by
  obtain ⟨j, rfl⟩ := Int.eq_ofNat_of_zero_le h0
  refine atI_nat ?_
  have hj : j < ns.length := by omega
  rw [List.getElem?_map, List.getElem?_eq_getElem hj]
  simp [List.getD, List.getElem?_eq_getElem hj]
end XS
namespace XS
open PySem PySem.Spec PyProof.Rows L2
section
variable {K : PySem.W.Frag} {H : Hp} {Q : VK} {x y : V}
theorem x_isi {a b : String} {r : Bool} (ty : TyX K H x (.type a)) (e : kitB a b = some r) (q : Q (.bl r) H) : rIsi K [x, .ty b] H Q := ⟨x, .ty b, .type a, .type b, r, rfl, .ty b, ty, kit_ty e, q⟩
theorem k_int_str : kitB "int" "str" = some false := by decide +kernel
theorem k_int_int : kitB "int" "int" = some true := by decide +kernel
theorem k_int_bool : kitB "int" "bool" = some false := by decide +kernel
theorem k_str_str : kitB "str" "str" = some true := by decide +kernel
theorem k_str_int : kitB "str" "int" = some false := by decide +kernel
theorem k_tup_str : kitB "tuple" "str" = some false := by decide +kernel
theorem k_tup_int : kitB "tuple" "int" = some false := by decide +kernel
theorem k_tup_tup : kitB "tuple" "tuple" = some true := by decide +kernel
theorem k_tup_lst : kitB "tuple" "list" = some false := by decide +kernel
theorem k_lst_str : kitB "list" "str" = some false := by decide +kernel
theorem k_lst_int : kitB "list" "int" = some false := by decide +kernel
theorem k_lst_tup : kitB "list" "tuple" = some false := by decide +kernel
theorem k_lst_lst : kitB "list" "list" = some true := by decide +kernel
theorem k_bool_bool : kitB "bool" "bool" = some true := by decide +kernel
theorem k_bool_int : kitB "bool" "int" = some true := by decide +kernel
theorem k_bool_str : kitB "bool" "str" = some false := by decide +kernel
theorem x_is_no {b : Bool} (hx : x ≠ .bl b) (q : Q (.bl false) H) : rIsC x (.bl b) H Q := ⟨b, rfl, by rw [decide_eq_false hx]; exact q⟩
theorem x_is_yes {b : Bool} (q : Q (.bl true) H) : rIsC (.bl b) (.bl b) H Q := ⟨b, rfl, by rw [decide_eq_true rfl]; exact q⟩
end
/-- the first item of a sequence of the kind that d tells, by its place -/
theorem atI_get {xs : List V} {i : Nat} {v : V} (h : xs[i]? = some v) : atI xs (i : Int) = some v := atI_nat h
/-- the numbers by a mix -/
def mixN (m : Int) : Int := (m * 48271 + 11) % 2147483647
theorem mixN_b (m : Int) : 0 ≤ mixN m ∧ mixN m < 2147483647 := ⟨Int.emod_nonneg _ (by decide), Int.emod_lt_of_pos _ (by decide)⟩
def bigTurn (s : Int × Int) : Int × Int := (s.1 * 10 + mixN s.2 / 7 % 10, mixN s.2)
def bigRun : Nat → Int × Int → Int × Int
  | 0, s => s
  | n + 1, s => bigTurn (bigRun n s)
def bigBy (c : Int) : Int := if 0 < c % 4 then c / 4 % 19 - 9 else (if c / 4 % 2 = 0 then 1 else -1) * (bigRun (1 + c / 8 % 60).toNat (0, c)).1
theorem bigRun_b (c : Int) : ∀ n, 0 ≤ (bigRun n (0, c)).1 ∧ (bigRun n (0, c)).1 < 10 ^ n
  | 0 => by
    show (0 : Int) ≤ 0 ∧ (0 : Int) < 10 ^ 0
    decide
  | n + 1 => by
    obtain ⟨h1, h2⟩ := bigRun_b c n
    show 0 ≤ (bigRun n (0, c)).1 * 10 + mixN (bigRun n (0, c)).2 / 7 % 10 ∧ (bigRun n (0, c)).1 * 10 + mixN (bigRun n (0, c)).2 / 7 % 10 < 10 ^ (n + 1)
    have h3 : 0 ≤ mixN (bigRun n (0, c)).2 / 7 % 10 := Int.emod_nonneg _ (by decide)
    have h4 : mixN (bigRun n (0, c)).2 / 7 % 10 < 10 := Int.emod_lt_of_pos _ (by decide)
    rw [Int.pow_succ]
    constructor <;> omega
theorem bigBy_b (c : Int) : (bigBy c).natAbs < 10 ^ 60 := by
  unfold bigBy
  split
  · have h3 : 0 ≤ c / 4 % 19 := Int.emod_nonneg _ (by decide)
    have h4 : c / 4 % 19 < 19 := Int.emod_lt_of_pos _ (by decide)
    have : (c / 4 % 19 - 9).natAbs < 20 := by omega
    exact Nat.lt_of_lt_of_le this (by decide)
  · have h3 : 0 ≤ c / 8 % 60 := Int.emod_nonneg _ (by decide)
    have h4 : c / 8 % 60 < 60 := Int.emod_lt_of_pos _ (by decide)
    obtain ⟨h1, h2⟩ := bigRun_b c (1 + c / 8 % 60).toNat
    have h5 : (10 : Int) ^ (1 + c / 8 % 60).toNat ≤ 10 ^ 60 := by
      have : (1 + c / 8 % 60).toNat ≤ 60 := by omega
      have h6 : (10 : Nat) ^ (1 + c / 8 % 60).toNat ≤ 10 ^ 60 := Nat.pow_le_pow_right (by decide) this
      exact_mod_cast h6
    have h7 : (bigRun (1 + c / 8 % 60).toNat (0, c)).1.natAbs < 10 ^ 60 := by omega
    split
    · rw [Int.one_mul]; exact h7
    · rw [Int.neg_one_mul, Int.natAbs_neg]; exact h7
def sp_whole : Sp := fun vs H Q _ => ∃ i : Int, vs = [.int i] ∧ Q (.bl true) H
def sp_big_by : Sp := fun vs H Q _ => ∃ c : Int, vs = [.int c] ∧ ∀ H', Same H H' → Q (.int (bigBy c)) H'
def sp_alike (n : Nat) (K : PySem.W.Frag) : Sp := fun vs H Q _ => ∃ (g e : V) (d : PyData) (k : Nat), vs = [g, e] ∧ n = k + 1 ∧ Dp K H g d ∧ Dp K H e d ∧ Al k d ∧ Q (.bl true) H
def sp_share (K : PySem.W.Frag) : Sp := fun vs H Q _ => ∃ (v : V) (s : Sm) (x : Str), vs = [v, .str x] ∧ Dp K H v (sumD s) ∧ (s.2.map (·.1)).Nodup ∧ Q (.int (shr s.2 x)) H
/-- made's: pairs in any order, fewer than 64 -/
def sp_made (K : PySem.W.Frag) : Sp := fun vs H Q _ => ∃ (n : Int) (v : V) (ps : List Pr), vs = [.int n, v] ∧ Dp K H v (.list (ps.map prT)) ∧ ps.length < 64 ∧
  ∀ t H' out, Same H H' → Norm out → (∀ x, shr out x = shr ps x) → (∀ x ∈ out.map (·.1), x ∈ ps.map (·.1)) → Dp K H' (.ref t) (sumD (n, out)) → Q (.ref t) H'
def sp_law (K : PySem.W.Frag) : Sp := fun vs H Q _ => ∃ (a : Addr) (ns : List Int), vs = [.ref a] ∧ SqL K H a (ns.map V.int) ∧ ns.length ≤ 63 ∧ ∀ H', Q (.bl true) H'
end XS

namespace XS
open PySem PySem.Spec PyProof.Rows L2
/-! ### the four names -/
/-- a text of codes -/
def tx (l : List Nat) : Str := ⟨l.toArray⟩
theorem tx_cps (l : List Nat) : (tx l).cps.toList = l := by simp [tx]
theorem tx_len (l : List Nat) : (tx l).length = l.length := by show l.toArray.size = l.length; simp
theorem tx_inj {a b : List Nat} (h : tx a = tx b) : a = b := by have := congrArg (fun s : Str => s.cps.toList) h; simpa [tx] using this
theorem tx_app (a b : List Nat) : tx a ++ tx b = tx (a ++ b) := by
  refine str_ext ?_
  show (a.toArray ++ b.toArray).toList = _
  simp [tx]
theorem tx_cut0 (l : List Nat) (k : Nat) : cutS (tx l) none (some (k : Int)) = tx (l.take k) := by
  refine str_ext ?_
  show (((tx l).cps.toList.drop _).take _).toArray.toList = _
  rw [tx_cps, tx_cps, tx_len, HT.sIx_none, HT.sIx_nat]
  simp
theorem tx_cut1 (l : List Nat) (k : Nat) : cutS (tx l) (some (k : Int)) none = tx (l.drop k) := by
  refine str_ext ?_
  show (((tx l).cps.toList.drop _).take _).toArray.toList = _
  rw [tx_cps, tx_cps, tx_len, HT.sIx_none, HT.sIx_nat]
  simp
  rcases Nat.le_total k l.length with h | h
  · rw [Nat.min_eq_left h, List.take_of_length_le (by rw [List.length_drop]; exact Nat.le_refl _)]
  · rw [Nat.min_eq_right h, List.drop_eq_nil_of_le h]
    simp
theorem tx_rep (l : List Nat) (n : Nat) : repS (tx l) n = tx (List.replicate n l).flatten := by
  unfold repS
  rw [tx_cps]
  rfl
def abc : Str := "abcdefghijklmnopqrstuvwxyz"
theorem abc_cps : abc.cps.toList = (List.range 26).map (97 + ·) := by decide +kernel
theorem abc_len : abc.length = 26 := by decide +kernel
/-- the code of the letter by a number -/
def lc (n : Int) : Nat := 97 + (n % 26).toNat
theorem lc_b (n : Int) : 97 ≤ lc n ∧ lc n ≤ 122 := by
  have h1 : 0 ≤ n % 26 := Int.emod_nonneg _ (by decide)
  have h2 : n % 26 < 26 := Int.emod_lt_of_pos _ (by decide)
  unfold lc
  omega
theorem abc_at (n : Int) : atI abc.cps.toList (n % 26) = some (lc n) := by
  have h1 : 0 ≤ n % 26 := Int.emod_nonneg _ (by decide)
  have h2 : n % 26 < 26 := Int.emod_lt_of_pos _ (by decide)
  unfold lc
  obtain ⟨j, hj⟩ := Int.eq_ofNat_of_zero_le h1
  rw [hj]
  refine atI_nat ?_
  rw [abc_cps, List.getElem?_map, List.getElem?_range (by omega)]
  simp
/-- small letters, 1 to 8 -/
def Word (l : List Nat) : Prop := 1 ≤ l.length ∧ l.length ≤ 8 ∧ ∀ c ∈ l, 97 ≤ c ∧ c ≤ 122
def wordRun (c : Int) : Nat → List Nat × Int
  | 0 => ([], c)
  | n + 1 => ((wordRun c n).1 ++ [lc (mixN (wordRun c n).2 / 7)], mixN (wordRun c n).2)
theorem wordRun_len (c : Int) : ∀ n, (wordRun c n).1.length = n
  | 0 => rfl
  | n + 1 => by
    show ((wordRun c n).1 ++ [_]).length = n + 1
    rw [List.length_append, wordRun_len c n]
    rfl
theorem wordRun_abc (c : Int) : ∀ n, ∀ x ∈ (wordRun c n).1, 97 ≤ x ∧ x ≤ 122
  | 0, _, h => by cases h
  | n + 1, x, h => by
    rcases List.mem_append.mp h with h | h
    · exact wordRun_abc c n x h
    · simp at h
      subst h
      exact lc_b _
def sizeBy (c : Int) : Nat := (1 + c % 8).toNat
theorem sizeBy_b (c : Int) : 1 ≤ sizeBy c ∧ sizeBy c ≤ 8 ∧ (sizeBy c : Int) = 1 + c % 8 := by
  have h1 : 0 ≤ c % 8 := Int.emod_nonneg _ (by decide)
  have h2 : c % 8 < 8 := Int.emod_lt_of_pos _ (by decide)
  unfold sizeBy
  omega
def wordBy (c : Int) : List Nat := (wordRun c (sizeBy c)).1
theorem wordBy_ok (c : Int) : Word (wordBy c) := by
  have h := sizeBy_b c
  refine ⟨?_, ?_, wordRun_abc c _⟩ <;> (unfold wordBy; rw [wordRun_len]; omega)
theorem wordBy_len (c : Int) : (wordBy c).length = sizeBy c := wordRun_len c _
/-- the usual names -/
def usual : List Str := ["new", "k", "t", "x", "y", "z", "step", "size", "bound", "some", "and", "above", "nought", "goes", "not", "or", "all", "far", "low", "high", "name", "newone", "number", "it", "lined"]
theorem usual_len : usual.length = 25 := rfl
theorem usual_nd : usual.Nodup := by decide +kernel
def wordB (l : List Nat) : Bool := decide (1 ≤ l.length) && decide (l.length ≤ 8) && l.all fun c => decide (97 ≤ c) && decide (c ≤ 122)
theorem word_of {l : List Nat} (h : wordB l = true) : Word l := by
  unfold wordB at h
  simp only [Bool.and_eq_true, decide_eq_true_eq, List.all_eq_true] at h
  exact ⟨h.1.1, h.1.2, h.2⟩
theorem usual_all : (usual.all fun s => wordB s.cps.toList) = true := by decide +kernel
theorem usual_ok {s : Str} (h : s ∈ usual) : Word s.cps.toList := word_of (List.all_eq_true.mp usual_all s h)
def offs : Nat → Int
  | 0 => 0 | 1 => 7 | 2 => 12 | _ => 18
def spotBy (c : Int) : Nat := (c / 24 % (1 + c % 8)).toNat
theorem spotBy_b (c : Int) : spotBy c < sizeBy c ∧ (spotBy c : Int) = c / 24 % (1 + c % 8) := by
  have h1 : 0 ≤ c % 8 := Int.emod_nonneg _ (by decide)
  have h3 : 0 ≤ c / 24 % (1 + c % 8) := Int.emod_nonneg _ (by omega)
  have h4 : c / 24 % (1 + c % 8) < 1 + c % 8 := Int.emod_lt_of_pos _ (by omega)
  unfold spotBy sizeBy
  omega
def nameBy (c : Int) (k : Nat) : Str :=
  if c / 8 % 3 = 2 then tx (List.replicate (1 + (k + c / 24) % 8).toNat ((wordBy c).take 1)).flatten
  else if c / 8 % 9 = 1 ∨ c / 8 % 9 = 4 ∨ c / 8 % 9 = 7 then usual.getD ((c / 72 + offs k) % 25).toNat ""
  else tx ((wordBy c).take (spotBy c) ++ [lc (c / 192 + 7 * k)] ++ (wordBy c).drop (spotBy c + 1))
def namesBy (c : Int) : List Str := (List.range 4).map (nameBy c)
theorem namesBy_eq (c : Int) : namesBy c = [nameBy c 0, nameBy c 1, nameBy c 2, nameBy c 3] := rfl
theorem namesBy_len (c : Int) : (namesBy c).length = 4 := rfl
theorem usualAt (c : Int) (k : Nat) : ((c / 72 + offs k) % 25).toNat < 25 := by
  have h1 : 0 ≤ (c / 72 + offs k) % 25 := Int.emod_nonneg _ (by decide)
  have h2 : (c / 72 + offs k) % 25 < 25 := Int.emod_lt_of_pos _ (by decide)
  omega
theorem take1_eq (c : Int) : ∃ a, (wordBy c).take 1 = [a] ∧ 97 ≤ a ∧ a ≤ 122 := by
  have h := wordBy_ok c
  cases e : wordBy c with
  | nil => have := h.1; rw [e] at this; simp at this
  | cons a r =>
    refine ⟨a, rfl, h.2.2 a (by rw [e]; exact List.mem_cons_self ..)⟩
theorem flat_one (n a : Nat) : (List.replicate n [a]).flatten = List.replicate n a := by
  induction n with
  | zero => rfl
  | succ n ih => rw [List.replicate_succ, List.flatten_cons, ih]; rfl
theorem nameBy_ok (c : Int) (k : Nat) : Word (nameBy c k).cps.toList := by
  unfold nameBy
  split
  · obtain ⟨a, e, ha⟩ := take1_eq c
    have h1 : 0 ≤ (k + c / 24) % 8 := Int.emod_nonneg _ (by decide)
    have h2 : (k + c / 24) % 8 < 8 := Int.emod_lt_of_pos _ (by decide)
    rw [tx_cps, e, flat_one]
    refine ⟨?_, ?_, fun x hx => ?_⟩
    · rw [List.length_replicate]; omega
    · rw [List.length_replicate]; omega
    · rw [(List.mem_replicate.mp hx).2]; exact ha
  · split
    · rw [List.getD_eq_getElem?_getD, List.getElem?_eq_getElem (by rw [usual_len]; exact usualAt c k)]
      exact usual_ok (List.getElem_mem _)
    · have h := wordBy_ok c
      have hs := spotBy_b c
      have hl := wordBy_len c
      have hz := sizeBy_b c
      rw [tx_cps]
      refine ⟨?_, ?_, fun x hx => ?_⟩
      · rw [List.length_append, List.length_append]; simp; omega
      · rw [List.length_append, List.length_append, List.length_take, List.length_drop]; simp; omega
      · rcases List.mem_append.mp hx with hx | hx
        · rcases List.mem_append.mp hx with hx | hx
          · exact h.2.2 x (List.mem_of_mem_take hx)
          · simp at hx; subst hx; exact lc_b _
        · exact h.2.2 x (List.mem_of_mem_drop hx)
theorem nd_inj {α : Type} {l : List α} (nd : l.Nodup) {i j : Nat} (hi : i < l.length) (hj : j < l.length) (e : l[i] = l[j]) : i = j := by
  rcases Nat.lt_trichotomy i j with h | h | h
  · exact absurd e (List.pairwise_iff_getElem.mp nd i j hi hj h)
  · exact h
  · exact absurd e.symm (List.pairwise_iff_getElem.mp nd j i hj hi h)
theorem nameBy_ne (c : Int) {j k : Nat} (hj : j < k) (hk : k < 4) : nameBy c j ≠ nameBy c k := by
  intro e
  unfold nameBy at e
  by_cases h1 : c / 8 % 3 = 2
  · rw [if_pos h1, if_pos h1] at e
    obtain ⟨a, ea, ha⟩ := take1_eq c
    rw [ea, flat_one, flat_one] at e
    have := congrArg List.length (tx_inj e)
    rw [List.length_replicate, List.length_replicate] at this
    omega
  · rw [if_neg h1, if_neg h1] at e
    by_cases h2 : c / 8 % 9 = 1 ∨ c / 8 % 9 = 4 ∨ c / 8 % 9 = 7
    · rw [if_pos h2, if_pos h2] at e
      have a1 := usualAt c j
      have a2 := usualAt c k
      rw [List.getD_eq_getElem?_getD, List.getD_eq_getElem?_getD, List.getElem?_eq_getElem (by rw [usual_len]; exact a1), List.getElem?_eq_getElem (by rw [usual_len]; exact a2)] at e
      have := nd_inj usual_nd _ _ e
      have h3 : k = 1 ∨ k = 2 ∨ k = 3 := by omega
      have h4 : j = 0 ∨ j = 1 ∨ j = 2 := by omega
      rcases h3 with rfl | rfl | rfl <;> rcases h4 with rfl | rfl | rfl <;> first | omega | (simp only [offs] at this; omega)
    · rw [if_neg h2, if_neg h2] at e
      have e := tx_inj e
      have hl : ((wordBy c).take (spotBy c)).length = ((wordBy c).take (spotBy c)).length := rfl
      rw [List.append_assoc, List.append_assoc] at e
      have := (List.append_inj e rfl).2
      simp only [List.cons_append, List.nil_append, List.cons.injEq] at this
      have h5 := this.1
      unfold lc at h5
      have b1 : 0 ≤ (c / 192 + 7 * (j : Int)) % 26 := Int.emod_nonneg _ (by decide)
      have b2 : 0 ≤ (c / 192 + 7 * (k : Int)) % 26 := Int.emod_nonneg _ (by decide)
      have h6 : (c / 192 + 7 * (j : Int)) % 26 = (c / 192 + 7 * (k : Int)) % 26 := by omega
      omega
theorem namesBy_nd (c : Int) : (namesBy c).Nodup := by
  rw [namesBy_eq]
  simp only [List.nodup_cons, List.mem_cons, List.not_mem_nil, or_false, not_or, not_false_eq_true, List.nodup_nil, and_true, true_and]
  refine ⟨⟨nameBy_ne c (by decide) (by decide), nameBy_ne c (by decide) (by decide), nameBy_ne c (by decide) (by decide)⟩, ⟨nameBy_ne c (by decide) (by decide), nameBy_ne c (by decide) (by decide)⟩, nameBy_ne c (by decide) (by decide)⟩
theorem namesBy_word {c : Int} {x : Str} (h : x ∈ namesBy c) : Word x.cps.toList := by
  unfold namesBy at h
  obtain ⟨k, _, rfl⟩ := List.mem_map.mp h
  exact nameBy_ok c k
def sp_names_by : Sp := fun vs H Q _ => ∃ c : Int, vs = [.int c] ∧ ∀ l H', H l = none → Same H H' → H' l = some (.lst ((namesBy c).map V.str)) → Q (.ref l) H'
theorem names_at {c n : Int} (h1 : 0 ≤ n) (h2 : n < 4) : ∃ x, atI ((namesBy c).map V.str) n = some (.str x) ∧ x ∈ namesBy c := by
  have h : n = 0 ∨ n = 1 ∨ n = 2 ∨ n = 3 := by omega
  rcases h with rfl | rfl | rfl | rfl
  · exact ⟨nameBy c 0, atI_get (i := 0) rfl, by rw [namesBy_eq]; simp⟩
  · exact ⟨nameBy c 1, atI_get (i := 1) rfl, by rw [namesBy_eq]; simp⟩
  · exact ⟨nameBy c 2, atI_get (i := 2) rfl, by rw [namesBy_eq]; simp⟩
  · exact ⟨nameBy c 3, atI_get (i := 3) rfl, by rw [namesBy_eq]; simp⟩
theorem im_pairs (ps : List Pr) : ∀ d ∈ ps.map prT, Im d := fun d hd => by
  obtain ⟨p, _, rfl⟩ := List.mem_map.mp hd
  exact im_pair p
theorem pair_at {K : PySem.W.Frag} {H : Hp} {us : List V} {ps : List Pr} {i : Nat} {p : Pr} {u : V} (d : DpAll K H us (ps.map prT)) (hp : ps[i]? = some p) (hu : us[i]? = some u) : Dp K H u (prT p) := by
  obtain ⟨u', h1, h2⟩ := d.get (i := i) (d := prT p) (by rw [List.getElem?_map, hp]; rfl)
  rw [hu] at h1
  cases h1
  exact h2
theorem range_getD {α : Type} (ys : List α) (d : α) : (List.range ys.length).map (fun k => ys.getD k d) = ys := by
  refine List.ext_getElem? fun i => ?_
  rw [List.getElem?_map]
  by_cases h : i < ys.length
  · rw [List.getElem?_range h, List.getElem?_eq_getElem h]
    show some (ys.getD i d) = _
    rw [List.getD_eq_getElem?_getD, List.getElem?_eq_getElem h]
    rfl
  · rw [List.getElem?_eq_none (by rw [List.length_range]; omega), List.getElem?_eq_none (by omega)]
    rfl
theorem range_pick {α β : Type} (ys : List α) (d : α) {n : Nat} (h : ys.length = n) (f : α → Bool) (g : α → β) : ((List.range n).filter fun k => f (ys.getD k d)).map (fun k => g (ys.getD k d)) = (ys.filter f).map g := by
  subst h
  conv => rhs; rw [← range_getD ys d]
  rw [List.filter_map, List.map_map]
  rfl
end XS

namespace XS
open PySem PySem.Spec PyProof.Rows L2
/-! ### the rules that name the written part, with it as a letter -/
section
variable {X : Cx} {e e2 l tg : Expr} {es : List Expr} {te tl ta to : TE} {t : TA} {p pos : Pos}
theorem ix_listK (K : PySem.W.Frag) (hK : X.K = K := by rfl) : IxR X (rIxL K) := by subst hK; exact ix_list
theorem ix_tupK (K : PySem.W.Frag) (hK : X.K = K := by rfl) : IxR X (rIxT K) := by subst hK; exact ix_tup
theorem ix_seqK (K : PySem.W.Frag) (hK : X.K = K := by rfl) : IxR X (rIx K) := by subst hK; exact ix_seq
theorem sl_listK (K : PySem.W.Frag) (hK : X.K = K := by rfl) : SlR X (rSlL K) := by subst hK; exact sl_list
theorem sl_tupK (K : PySem.W.Frag) (hK : X.K = K := by rfl) : SlR X (rSlA K) := by subst hK; exact sl_tupA
theorem pi_listK (K : PySem.W.Frag) (hl : PE X l tl) (hK : X.K = K := by rfl) : PI X tg l (iList K tl) := by subst hK; exact pi_list hl
theorem pi_tupK (K : PySem.W.Frag) (hl : PE X l tl) (hK : X.K = K := by rfl) : PI X tg l (iTup K tl) := by subst hK; exact pi_tup hl
theorem pg_tupK (K : PySem.W.Frag) {k n : Nat} {g : TGs} (hc : X.calm = true) (h : PGs X es g) (hK : X.K = K := by rfl)
    (hn : (assignEach es X.env).length = n := by rfl) (hst : (assignEach es X.env).findIdx? (·.1) = none := by rfl) : PG X (.Tuple es k pos) (gTup K n g) := by subst hK; exact pg_tup hc h hn hst
def rLenK (K : PySem.W.Frag) : List V → Hp → VK → Prop := fun xs H Q => ∃ p ys, xs = [.ref p] ∧ (SqL K H p ys ∨ SqT K H p ys) ∧ Q (.int ys.length) H
def rListK (K : PySem.W.Frag) : List V → Hp → VK → Prop := fun xs H Q => ∃ p ys, xs = [.ref p] ∧ (SqL K H p ys ∨ SqT K H p ys) ∧ ∀ l, H l = none → Q (.ref l) (upd H l (.lst ys))
theorem call_isiK (K : PySem.W.Frag) (hK : X.K = K := by rfl) : CallR X (.builtin "isinstance") (rIsi K) := by subst hK; exact call_isi
theorem cr_sumK (K : PySem.W.Frag) (hc : X.calm = true) (hK : X.K = K := by rfl) : CallR X (.builtin "sum") (rSum K) := by subst hK; exact cr_sum hc
theorem cr_sortedSK (K : PySem.W.Frag) (hK : X.K = K := by rfl) : CallR X (.builtin "sorted") (rSortedS K) := by subst hK; exact cr_sortedS
theorem call_lenK (K : PySem.W.Frag) (hK : X.K = K := by rfl) : CallR X (.builtin "len") (rLenK K) := by subst hK; exact call_len_seq
theorem call_listK (K : PySem.W.Frag) (hK : X.K = K := by rfl) : CallR X (.type "list") (rListK K) := by subst hK; exact call_list_of
theorem op_inK (K : PySem.W.Frag) (hK : X.K = K := by rfl) : OpR X (compareOp .In) (rIn K false) := by subst hK; exact op_in_seq
theorem op_notInK (K : PySem.W.Frag) (hK : X.K = K := by rfl) : OpR X (compareOp .NotIn) (rIn K true) := by subst hK; exact op_notIn_seq
theorem op_catK (K : PySem.W.Frag) (hK : X.K = K := by rfl) : OpR X (binaryOp .Add) (rCatA K) := by subst hK; exact op_catA
theorem op_repK (K : PySem.W.Frag) (hK : X.K = K := by rfl) : OpR X (binaryOp .Mult) (rRepT K) := by subst hK; exact op_repT
theorem pa_starK (K : PySem.W.Frag) (he : PE X e te) (hr : PA X es t) (hK : X.K = K := by rfl) (hs : starEach (.Starred e p :: es) X.env = (true, eval e X.env) :: starEach es X.env := by rfl) : PA X (.Starred e p :: es) (StX.tStar K te t) := by subst hK; exact StX.pa_star he hr hs
/-- tuple(xs) of a list or a tuple -/
def rTupK (K : PySem.W.Frag) : List V → Hp → VK → Prop := fun xs H Q => ∃ p ys, xs = [.ref p] ∧ ((SqL K H p ys ∧ ∀ l, H l = none → Q (.ref l) (upd H l (.tup ys))) ∨ (SqT K H p ys ∧ Q (.ref p) H))
theorem call_tupK (K : PySem.W.Frag) (hK : X.K = K := by rfl) : CallR X (.type "tuple") (rTupK K) := by subst hK; exact call_tuple_of
end
section
variable {K : PySem.W.Frag} {H : Hp} {Q : VK}
theorem x_lenL {p : Addr} {ys : List V} (h : SqL K H p ys) (q : Q (.int ys.length) H) : rLenK K [.ref p] H Q := ⟨p, ys, rfl, .inl h, q⟩
theorem x_lenT {p : Addr} {ys : List V} (h : SqT K H p ys) (q : Q (.int ys.length) H) : rLenK K [.ref p] H Q := ⟨p, ys, rfl, .inr h, q⟩
theorem x_listL {p : Addr} {ys : List V} (h : SqL K H p ys) (q : ∀ l H1, H l = none → Same H H1 → H1 l = some (.lst ys) → Q (.ref l) H1) : rListK K [.ref p] H Q := ⟨p, ys, rfl, .inl h, fun l hl => q l _ hl (same_upd hl) upd_same⟩
theorem x_tupL {p : Addr} {ys : List V} (h : SqL K H p ys) (q : ∀ l H1, H l = none → Same H H1 → H1 l = some (.tup ys) → Q (.ref l) H1) : rTupK K [.ref p] H Q := ⟨p, ys, rfl, .inl ⟨h, fun l hl => q l _ hl (same_upd hl) upd_same⟩⟩
theorem x_sum {p : Addr} {ns : List Int} (h : SqL K H p (ns.map V.int)) (q : Q (.int ns.sum) H) : rSum K [.ref p] H Q := ⟨p, ns, rfl, h, q⟩
theorem x_sortS {p : Addr} {xs : List Str} (h : SqL K H p (xs.map V.str)) (hz : xs.length < 64) (q : ∀ ys l H1, ys.Perm xs → sortedS ys = true → H l = none → Same H H1 → H1 l = some (.lst (ys.map V.str)) → Q (.ref l) H1) : rSortedS K [.ref p] H Q :=
  ⟨p, xs, rfl, h, hz, fun ys l h1 h2 h3 => q ys l _ h1 h2 h3 (same_upd h3) upd_same⟩
end
/-! ### data that == looks at -/
theorem plainAll {xs : List PyData} (h : ∀ d ∈ xs, d.plain = true) : PyData.plainAll xs = true := by
  induction xs with
  | nil => rfl
  | cons x xs ih =>
    have h1 := h x (List.mem_cons_self ..)
    have h2 := ih fun d hd => h d (List.mem_cons_of_mem _ hd)
    simp [PyData.plainAll, h1, h2]
theorem depthAll_le {xs : List PyData} {n : Nat} (h : ∀ d ∈ xs, d.depth ≤ n) : PyData.depthAll xs ≤ n := by
  induction xs with
  | nil => simp [PyData.depthAll]
  | cons x xs ih =>
    have h1 := h x (List.mem_cons_self ..)
    have h2 := ih fun d hd => h d (List.mem_cons_of_mem _ hd)
    simp only [PyData.depthAll]
    omega
/-- without dicts, at most 64 deep -/
structure Flt (d : PyData) : Prop where
  pl : d.plain = true
  dp : d.depth ≤ 64
theorem al_lay {n : Nat} {d : PyData} (h : Al n d) : d.plain = true ∧ d.depth ≤ n + 1 := by
  induction h with
  | int i => exact ⟨rfl, by simp [PyData.depth]⟩
  | str x => exact ⟨rfl, by simp [PyData.depth]⟩
  | tru => exact ⟨rfl, by simp [PyData.depth]⟩
  | non => exact ⟨rfl, by simp [PyData.depth]⟩
  | tup _ _ ih =>
    have h1 := plainAll fun d hd => (ih d hd).1
    have h2 := depthAll_le fun d hd => (ih d hd).2
    refine ⟨by simpa [PyData.plain] using h1, ?_⟩
    simp only [PyData.depth]
    omega
  | lst _ _ ih =>
    have h1 := plainAll fun d hd => (ih d hd).1
    have h2 := depthAll_le fun d hd => (ih d hd).2
    refine ⟨by simpa [PyData.plain] using h1, ?_⟩
    simp only [PyData.depth]
    omega
theorem al_flt {n : Nat} {d : PyData} (h : Al n d) (hn : n ≤ 60) : Flt d := ⟨(al_lay h).1, by have := (al_lay h).2; omega⟩
theorem al_pairs {n : Nat} {ps : List Pr} (h : ps.length ≤ 1000) : Al (n + 2) (.list (ps.map prT)) := .lst (fun d hd => by
  obtain ⟨p, _, rfl⟩ := List.mem_map.mp hd
  exact al_pair p) (by rw [List.length_map]; exact h)
def rEqP (K : PySem.W.Frag) : R2 := fun x y H Q => ∃ d e, Dp K H x d ∧ Dp K H y e ∧ Flt d ∧ Flt e ∧ Q (.bl (PyData.eqv d e)) H
def rNeP (K : PySem.W.Frag) : R2 := fun x y H Q => ∃ d e, Dp K H x d ∧ Dp K H y e ∧ Flt d ∧ Flt e ∧ Q (.bl (!PyData.eqv d e)) H
theorem op_eqK {X : Cx} (K : PySem.W.Frag) (hu : X.A.units + 64 < cLine) (hK : X.K = K := by rfl) : OpR X (compareOp .Eq) (rEqP K) := by
  subst hK
  intro pins s σ H x y v u Q I rx ry h
  obtain ⟨d, e, hd, he, sd, se, q⟩ := h
  obtain ⟨as, r1⟩ := Dp.reads I d x v hd rx
  obtain ⟨bs, r2⟩ := Dp.reads I e y u he ry
  exact SeqAt.eq_plain r1 r2 sd.pl se.pl (by have := sd.dp; have := se.dp; omega) ⟨.bl _, H, I, rfl, q⟩
theorem op_neK {X : Cx} (K : PySem.W.Frag) (hu : X.A.units + 64 < cLine) (hK : X.K = K := by rfl) : OpR X (compareOp .NotEq) (rNeP K) := by
  subst hK
  intro pins s σ H x y v u Q I rx ry h
  obtain ⟨d, e, hd, he, sd, se, q⟩ := h
  obtain ⟨as, r1⟩ := Dp.reads I d x v hd rx
  obtain ⟨bs, r2⟩ := Dp.reads I e y u he ry
  exact SeqAt.ne_plain r1 r2 sd.pl se.pl (by have := sd.dp; have := se.dp; omega) ⟨.bl _, H, I, rfl, q⟩
section
variable {K : PySem.W.Frag} {H : Hp} {Q : VK} {x y : V}
theorem x_eqD {d e : PyData} (h1 : Dp K H x d) (h2 : Dp K H y e) (a1 : Flt d) (a2 : Flt e) (q : Q (.bl (PyData.eqv d e)) H) : rEqP K x y H Q := ⟨d, e, h1, h2, a1, a2, q⟩
theorem x_neD {d e : PyData} (h1 : Dp K H x d) (h2 : Dp K H y e) (a1 : Flt d) (a2 : Flt e) (q : Q (.bl (!PyData.eqv d e)) H) : rNeP K x y H Q := ⟨d, e, h1, h2, a1, a2, q⟩
end
theorem flt_nil : Flt (.list []) := ⟨rfl, by simp [PyData.depth, PyData.depthAll]⟩
theorem x_cut {t u : TS} {D : Ends} {σ : L2.St} {H : Hp} (Mid : L2.St → Hp → Prop) (h1 : t { D with nx := Mid } σ H) (h2 : ∀ σ' H', Mid σ' H' → u D σ' H') : Evl.tCut t u D σ H := ⟨Mid, h1, h2⟩
theorem eqv_nil (ds : List PyData) : PyData.eqv (.list ds) (.list []) = ds.isEmpty := by
  cases ds <;> simp [PyData.eqv, PyData.eqvAll]
section
variable {K : PySem.W.Frag} {σ : L2.St} {H : Hp} {te : TE} {t : TA} {k : List V → Hp → Prop}
theorem x_star (h : te σ H fun x H1 => ∃ p xs, x = V.ref p ∧ (SqT K H1 p xs ∨ SqL K H1 p xs) ∧ t σ H1 fun ys H2 => k (xs ++ ys) H2) : StX.tStar K te t σ H k := h
end
end XS

namespace XS
open PySem PySem.Spec PyProof.Rows L2 L2H
/-! ### isinstance of an error that the context bears -/
theorem call_isP {X : Cx} {a D : Addr} {oe : Obj} (hp : (a, oe) ∈ X.pn) (C : ExcC X.K D) (hz : Zc (.ref D) none oe) (hf : ∃ vs, oe.data = .fields vs) : CallR X (.builtin "isinstance") (rIsE X.K D a) := by
  intro pins s σ H xs us Q I r h
  obtain ⟨c, cv, b, rfl, hcv, e, q⟩ := h
  obtain ⟨u1, u2, rfl, r1, r2⟩ := vals2 r
  obtain rfl : u1 = Value.ref a := r1
  have ec := hcv _ r2
  subst ec
  have hget := (I.pin (a, oe) (List.mem_append_left _ hp)).1
  have J : PySem.W.InstAt s.heap a oe D none := by
    obtain ⟨vs, hv⟩ := hf
    cases oe with
    | mk oc od oda osl =>
      obtain ⟨z1, z2⟩ := hz
      simp only at z1 z2 hv
      subst z1 z2 hv
      exact ⟨hget, rfl, rfl, trivial⟩
  exact PySem.W.kia_one (PySem.W.handS_kitx_exc C.hg C.hk C.hs C.hd C.ha C.hn C.ht C.hm) I.kIn J e (fun z => nomatch z) fun tk => ⟨.bl b, H, I.kept (t' := tk) fun _ _ z => z, rfl, q⟩
/-! ### a def that takes the error that is handled: nothing leaves it -/
structure FnP (P : Program) (w : World) (K : PySem.W.Frag) (mg : Str → Option Value) (base : Heap) (k : Nat) (f : Addr) (fd : FuncData) (ps : List Str) (sp : Addr → Addr → Sp) : Prop where
  len : ∀ a D vs H Q E, sp a D vs H Q E → vs.length = ps.length
  run : ∀ (A : Around) (outer : List Env) (s : Shared) (H : Hp) (args : Args) (us : List Value) (vs : List V) (Q : VK) (p : Addr × Obj) (D : Addr), RoomH k A → PinOk outer H s p → Zc (.ref D) none p.2 → (∃ vs, p.2.data = .fields vs) →
    Env0 P w K mg base A outer s H → BindsTo s fd args (ps.zip us) → Vals vs us → sp p.1 D vs H Q E0 → codeAny (model P w) A (.call (.ref f) args) (CR CX0 outer P w H s Q E0) s
theorem fnP_of {P : Program} {w : World} {K : PySem.W.Frag} {mg : Str → Option Value} {base : Heap} {k : Nat} {x qual : Str} {st : Stmt} {f : Addr} {fd : FuncData} {N ps : List Str} {sp : Addr → Addr → Sp} (F : Fun K x qual st f fd) (S : FnScope N ps (defScope st))
    (len : ∀ a D vs H Q E, sp a D vs H Q E → vs.length = ps.length)
    (hbody : ∀ (cdv : Value) (A : Around) (outer : List Env) (s : Shared) (H : Hp) (vs : List V) (Q : VK) (p : Addr × Obj) (D : Addr), Zc (.ref D) none p.2 → (∃ vs, p.2.data = .fields vs) → RoomH k (A.deeper (envOfC qual (defScope st) s.heap.objs.size f cdv)) → sp p.1 D vs H Q E0 →
      ∃ t, PSs (cxH CX0 P w K mg base N qual (defScope st) f cdv A outer s H E0 p) (defBody st) t ∧ t { nx := fun _ H' => Q .non H', rt := Q } (L2.start N vs) H) : FnP P w K mg base (k + 1) f fd ps sp := by
  obtain ⟨oc, od, kV, doc, pm, an, cdv, ct, osl, rfl, lk, hcd⟩ := F.ex
  refine ⟨len, fun A outer s H args us vs Q p D hr hpin hz hf e0 hb r hsp => ?_⟩
  have KX : K.In s.heap := e0.mod.kin.keeps fun b o e => (e0.bs b o e).1
  have lim : s.heap.NoLimit := e0.mod.nolimit.keeps fun b o e => (e0.bs b o e).1
  refine codeAny_call_function hr.depth (KX _ _ lk) rfl S.co S.gen rfl (PySem.W.codeRec_of KX hcd) (hb _ _ _ _ ?_)
  refine wpAny_newFunctionEnv_cells S.kind (fun y hy => ?_) fun env he s1 x => ?_
  · rcases S.par y.1 (List.of_mem_zip hy).1 with c | c
    · exact .inl c
    · exact .inr ⟨c, PySem.W.cellsFrom_some _ _ _ (.inl c)⟩
  subst he
  refine ⟨lim.keeps x.toInCall.keep, codeAny_func ?_⟩
  obtain ⟨t, ht, hq⟩ := hbody cdv A outer s H vs Q p D hz hf (hr.deeper _) hsp
  have I := inv_startH (CX := CX0) (P := P) (w := w) (K := K) (mg := mg) (base := base) (E := E0) S hpin e0 (len _ _ _ _ _ _ hsp) r x
  refine wpAny_mono (ht.run [] s1 _ H _ I hq) (fun fl s' hs => ?_) fun e s' hs => hs
  cases fl with
  | ret u =>
    obtain ⟨v, σ', H', J, rv, z⟩ := hs
    exact ⟨v, H', J.os, J.bare, J.base, J.hok, rv, z⟩
  | next =>
    obtain ⟨σ', H', J, z⟩ := hs
    exact ⟨V.non, H', J.os, J.bare, J.base, J.hok, rfl, z⟩
  | brk =>
    obtain ⟨_, _, _, z⟩ := hs
    exact False.elim z
  | cont =>
    obtain ⟨_, _, _, z⟩ := hs
    exact False.elim z
def DefP (P : Program) (w : World) (K : PySem.W.Frag) (mg : Str → Option Value) (base : Heap) (k : Nat) (nm : Str) (ps : List Str) (sp : Addr → Addr → Sp) : Prop :=
  ∃ f fd, FnP P w K mg base k f fd ps sp ∧ mg nm = some (.ref f) ∧ PySem.W.keepIn K (.ref f) = true ∧ Binds K fd ps []
theorem FunAt.okP {P : Program} {w : World} {K : PySem.W.Frag} {mg : Str → Option Value} {base : Heap} {k : Nat} {nm : Str} {st : Stmt} {N ps : List Str} {sp : Addr → Addr → Sp} (F : FunAt K mg nm st ps) (S : FnScope N ps (defScope st))
    (len : ∀ a D vs H Q E, sp a D vs H Q E → vs.length = ps.length)
    (hbody : ∀ (f : Addr) (cdv : Value) (A : Around) (outer : List Env) (s : Shared) (H : Hp) (vs : List V) (Q : VK) (p : Addr × Obj) (D : Addr), Zc (.ref D) none p.2 → (∃ vs, p.2.data = .fields vs) → RoomH k (A.deeper (envOfC nm (defScope st) s.heap.objs.size f cdv)) → sp p.1 D vs H Q E0 →
      ∃ t, PSs (cxH CX0 P w K mg base N nm (defScope st) f cdv A outer s H E0 p) (defBody st) t ∧ t { nx := fun _ H' => Q .non H', rt := Q } (L2.start N vs) H) : DefP P w K mg base (k + 1) nm ps sp := by
  obtain ⟨f, fd, F, a, b⟩ := F
  exact ⟨f, fd, fnP_of F S len (hbody f), a, F.kp, b⟩
/-- its call in the suite: the error at a, of the class cls, without a dict -/
def tCallP (a : Addr) (cls : Value) (d : Option Addr) (sp : Addr → Addr → Sp) (t : TA) : TE := fun σ H Q => t σ H fun vs H1 => ∃ D, cls = .ref D ∧ d = none ∧ sp a D vs H1 Q E0
section
variable {X : Cx} {k : Nat} {ps : List Str} {sp : Addr → Addr → Sp} {x : Str} {q pos : Pos} {e : Expr} {es : List Expr} {t : TA} {a : Addr} {oe : Obj} {cls : Value} {d : Option Addr}
theorem pe_callP (D : DefP X.prog X.w X.K X.mg X.base k x ps sp) (hp : (a, oe) ∈ X.pn) (hz : Zc cls d oe) (hf : ∃ vs, oe.data = .fields vs) (hr : RoomH k X.A) (hg : Gl X x) (ha : PA X (e :: es) t) (hdb : (x == ("__debug__" : Str)) = false := by decide)
    (he : starEach (e :: es) X.env = (false, eval e X.env) :: starEach es X.env := by rfl) (hpl : (backTo pos (starEach es X.env)).any (·.1) = false := by rfl) : PE X (.Call (.Name x q) (e :: es) [] pos) (tCallP a cls d sp t) := by
  obtain ⟨f, fd, F, hm, hk, hb⟩ := D
  refine ⟨fun pins s σ H Q I h => ?_⟩
  refine wpAny_Call_Name_kw (ld_glob I hg hm ?_ hdb)
  refine PySem.W.callWith_K (h₀ := X.base) I.ok.mod.kin hk (thn (ha.run pos pins s σ H _ I h) fun us s1 ⟨vs, H1, I1, r, D, e1, e2, z⟩ => ⟨I1.kIn, ?_⟩) he hpl
  subst e1 e2
  have hl : us.length = ps.length := by rw [← r.length]; exact F.len _ _ _ _ _ _ z
  have b := hb s1 us I1.kIn (by rw [List.append_nil]; exact hl)
  rw [List.append_nil] at b
  have P1 := I1.pin (a, oe) (List.mem_append_left _ hp)
  have hpin : PinOk X.stack H1 s1 (a, oe) := ⟨P1.1, P1.2.1, fun hm => (List.mem_cons.mp (I1.stkSub a hm)).elim P1.2.2.1 P1.2.2.2.1, P1.2.2.2.2⟩
  refine wpAny_call (codeAny_mono (F.run X.A X.stack s1 H1 ⟨us, []⟩ us vs Q (a, oe) D hr hpin hz hf I1.env0 b r z) fun r s' hq => ?_)
  cases r with
  | error e => exact False.elim hq
  | ok fl =>
    cases fl with
    | ret u => exact I1.after hq
    | next => exact False.elim hq
    | brk => exact False.elim hq
    | cont => exact False.elim hq
end
theorem roomH_mark {k j : Nat} {A : Around} {v : Option Value} (r : Room k A) (h : j ≤ k) : RoomH j (A.mark v) := ⟨(roomH_of (r.mono h)).dp, (roomH_of (r.mono h)).un⟩
/-- a call that may raise -/
theorem pe_callX {X : Cx} {k : Nat} {ps : List Str} {sp : Sp} {E : L2.St → XK} {x : Str} {q pos : Pos} {e : Expr} {es : List Expr} {t : TA} (D : DefAt X.prog X.w X.K X.mg X.base (L2.CX X.prog X.w) k x ps sp) (hr : Room k X.A) (hg : Gl X x)
    (hx : ∀ σ, PassesAt (L2.CX X.prog X.w) X σ (E σ)) (ha : PA X (e :: es) t) (hdb : (x == ("__debug__" : Str)) = false := by decide) (he : starEach (e :: es) X.env = (false, eval e X.env) :: starEach es X.env := by rfl)
    (hpl : (backTo pos (starEach es X.env)).any (·.1) = false := by rfl) : PE X (.Call (.Name x q) (e :: es) [] pos) (tCallS sp E t) := by
  obtain ⟨f, fd, F, a, b, c⟩ := D
  exact pe_callS F hr hg a b c hx ha hdb he hpl
/-- a promise by the body's reading, where something may be raised -/
theorem FunAt.okX {P : Program} {w : World} {K : PySem.W.Frag} {mg : Str → Option Value} {base : Heap} {nm : Str} {st : Stmt} {ps N : List Str} {sp : Sp} {k : Nat} (F : FunAt K mg nm st ps) (S : FnScope N ps (defScope st)) (len : ∀ vs H Q E, sp vs H Q E → vs.length = ps.length)
    (hbody : ∀ (f : Addr) (cdv : Value) (A : Around) (outer : List Env) (s : Shared) (H : Hp) (vs : List V) (Q : VK) (E : XK), Room k (A.deeper (envOfC nm (defScope st) s.heap.objs.size f cdv)) → sp vs H Q E →
      ∃ t, PSs (cxOf (L2.CX P w) P w K mg base N nm (defScope st) f cdv A outer s H E) (defBody st) t ∧ t { nx := fun _ H' => Q .non H', rt := Q } (L2.start N vs) H) : DefAt P w K mg base (L2.CX P w) (k + 1) nm ps sp := by
  obtain ⟨f, fd, F, a, b⟩ := F
  exact ⟨f, fd, F.okX S len (hbody f), a, F.kp, b⟩
/-! ### the error classes -/
/-- what the top has written of the four classes: S the base, V P N the three -/
structure Er (K : PySem.W.Frag) (mg : Str → Option Value) (S V P N : Addr) : Prop where
  g_SomeError : mg "SomeError" = some (.ref S)
  g_NoValue : mg "NoValue" = some (.ref V)
  g_NotPlain : mg "NotPlain" = some (.ref P)
  g_NoNote : mg "NoNote" = some (.ref N)
  x_NoValue : PySem.W.excIn K V [.type "ValueError", .type "Exception", .type "BaseException", .type "object"] "ValueError.__new__" = true
  k_NoValue : PySem.W.keepIn K (.ref V) = true
  b_NoValue : PySem.W.subIn K (.ref V) (.type "BaseException") = some true
  t_NoValue : PySem.W.typeIn K (.ref V) = some (.type "type")
  c_NoValue : ExcC K V
  x_NotPlain : PySem.W.excIn K P [.type "ValueError", .type "Exception", .type "BaseException", .type "object"] "ValueError.__new__" = true
  k_NotPlain : PySem.W.keepIn K (.ref P) = true
  b_NotPlain : PySem.W.subIn K (.ref P) (.type "BaseException") = some true
  t_NotPlain : PySem.W.typeIn K (.ref P) = some (.type "type")
  c_NotPlain : ExcC K P
  x_NoNote : PySem.W.excIn K N [.type "ValueError", .type "Exception", .type "BaseException", .type "object"] "ValueError.__new__" = true
  k_NoNote : PySem.W.keepIn K (.ref N) = true
  b_NoNote : PySem.W.subIn K (.ref N) (.type "BaseException") = some true
  t_NoNote : PySem.W.typeIn K (.ref N) = some (.type "type")
  c_NoNote : ExcC K N
  m_V : PySem.W.exmOne K (.ref V) (.ref S) = some true
  m_P : PySem.W.exmOne K (.ref P) (.ref S) = some true
  m_N : PySem.W.exmOne K (.ref N) (.ref S) = some true
  i_VV : PySem.W.kitOne K (.ref V) (.ref V) = some true
  i_VP : PySem.W.kitOne K (.ref V) (.ref P) = some false
  i_VN : PySem.W.kitOne K (.ref V) (.ref N) = some false
  i_V : PySem.W.kitOne K (.ref V) (.type "ValueError") = some true
  i_PV : PySem.W.kitOne K (.ref P) (.ref V) = some false
  i_PP : PySem.W.kitOne K (.ref P) (.ref P) = some true
  i_PN : PySem.W.kitOne K (.ref P) (.ref N) = some false
  i_P : PySem.W.kitOne K (.ref P) (.type "ValueError") = some true
  i_NV : PySem.W.kitOne K (.ref N) (.ref V) = some false
  i_NP : PySem.W.kitOne K (.ref N) (.ref P) = some false
  i_NN : PySem.W.kitOne K (.ref N) (.ref N) = some true
  i_N : PySem.W.kitOne K (.ref N) (.type "ValueError") = some true
/-- which error -/
inductive Ek | value | plain | note
def Ek.at (V P N : Addr) : Ek → Addr
  | .value => V | .plain => P | .note => N
def Ek.word : Ek → Str
  | .value => "no value" | .plain => "not plain" | .note => "no note"
def sp_word_of (V P N : Addr) : Addr → Addr → Sp := fun a D vs H Q _ => vs = [.ref a] ∧ ∃ k : Ek, D = k.at V P N ∧ ∀ H', Same H H' → Q (.str k.word) H'
section
variable {K : PySem.W.Frag} {H : Hp} {Q : VK} {σ : L2.St}
theorem x_isE {a D : Addr} {c : Addr} {b : Bool} (e : PySem.W.kitOne K (.ref D) (.ref c) = some b) (q : Q (.bl b) H) : rIsE K D a [.ref a, .ref c] H Q := ⟨.ref c, .ref c, b, rfl, fun _ h => h, e, q⟩
theorem x_isET {a D : Addr} {n : String} {b : Bool} (e : PySem.W.kitOne K (.ref D) (.type n) = some b) (q : Q (.bl b) H) : rIsE K D a [.ref a, .ty n] H Q := ⟨.ty n, .type n, b, rfl, fun _ h => h, e, q⟩
theorem x_callS {sp : Sp} {E : L2.St → XK} {t : TA} (h : t σ H fun vs H1 => sp vs H1 Q (E σ)) : tCallS sp E t σ H Q := h
theorem x_callP {a : Addr} {D : Addr} {sp : Addr → Addr → Sp} {t : TA} (h : t σ H fun vs H1 => sp a D vs H1 Q E0) : tCallP a (.ref D) none sp t σ H Q := by
  unfold tCallP
  refine (show t σ H (fun vs H1 => ∃ D', Value.ref D = .ref D' ∧ (none : Option Addr) = none ∧ sp a D' vs H1 Q E0) from ?_)
  have e : (fun (vs : List V) (H1 : Hp) => ∃ D', Value.ref D = .ref D' ∧ (none : Option Addr) = none ∧ sp a D' vs H1 Q E0) = fun vs H1 => sp a D vs H1 Q E0 := by
    funext vs H1
    exact propext ⟨fun ⟨D', h1, _, h2⟩ => by cases h1; exact h2, fun h => ⟨D, rfl, rfl, h⟩⟩
  rw [e]
  exact h
/-- sep.join of a list of texts -/
def rJoinK (K : PySem.W.Frag) : V → List V → Hp → VK → Prop := fun x xs H Q => ∃ a p, ∃ ys : List Str, x = .str a ∧ xs = [.ref p] ∧ (SqL K H p (ys.map V.str) ∨ SqT K H p (ys.map V.str)) ∧
  (ys.map (·.length)).sum + ys.length * a.length ≤ 16777216 ∧ Q (.str (Txt.join a ys)) H
theorem x_M1 {r : V → List V → Hp → VK → Prop} {to te : TE} (h : to σ H fun x H1 => (∃ a, x = .str a) ∧ te σ H1 fun y H2 => r x [y] H2 Q) : tM1 r to te σ H Q := h
end
theorem pe_joinK {X : Cx} {o e : Expr} {to te : TE} {apos pos : Pos} (K : PySem.W.Frag) (ho : PE X o to) (he : PE X e te) (hK : X.K = K := by rfl) (hs : starEach [e] X.env = [(false, eval e X.env)] := by rfl) (hbase : attributeBase o "join" X.env (eval o X.env) = eval o X.env := by rfl)
    (hline : (apos.endLine == pos.line) = true := by rfl) : PE X (.Call (.Attribute o "join" apos) [e] [] pos) (tM1 (rJoinK K) to te) := by
  subst hK
  exact pe_join ho he hs hbase hline
end XS

namespace XS
open PySem PySem.Spec PyProof.Rows L2
/-! ### the sums as functions -/
instance (a b : Str) : Decidable (slt a b) := by unfold slt; infer_instance
/-- a pair put into rising pairs -/
def ins (p : Pr) : List Pr → List Pr
  | [] => [p]
  | q :: r => if p.1 = q.1 then (q.1, q.2 + p.2) :: r else if slt p.1 q.1 then p :: q :: r else q :: ins p r
def sortP (ps : List Pr) : List Pr := ps.foldl (fun acc p => ins p acc) []
def nrm (ps : List Pr) : List Pr := (sortP ps).filter fun p => decide (p.2 ≠ 0)
theorem ins_mem (p : Pr) (x : Str) : ∀ r : List Pr, x ∈ (ins p r).map (·.1) ↔ x = p.1 ∨ x ∈ r.map (·.1)
  | [] => by simp [ins]
  | q :: r => by
    unfold ins
    split
    · rename_i h
      simp only [List.map_cons, List.mem_cons]
      constructor
      · rintro (h2 | h2)
        · exact .inr (.inl h2)
        · exact .inr (.inr h2)
      · rintro (h2 | h2 | h2)
        · exact .inl (h2.trans h)
        · exact .inl h2
        · exact .inr h2
    · split
      · simp
      · simp only [List.map_cons, List.mem_cons]
        rw [ins_mem p x r]
        constructor
        · rintro (h | h | h)
          · exact .inr (.inl h)
          · exact .inl h
          · exact .inr (.inr h)
        · rintro (h | h | h)
          · exact .inr (.inl h)
          · exact .inl h
          · exact .inr (.inr h)
theorem ins_rise (p : Pr) : ∀ r : List Pr, Rising (r.map (·.1)) → Rising ((ins p r).map (·.1))
  | [], _ => List.pairwise_singleton _ _
  | q :: r, h => by
    have h' := List.pairwise_cons.mp h
    unfold ins
    split
    · exact h
    · rename_i hne
      split
      · rename_i hlt
        refine List.pairwise_cons.mpr ⟨fun y hy => ?_, h⟩
        rcases List.mem_cons.mp hy with rfl | hy
        · exact hlt
        · exact slt_tr hlt (h'.1 y hy)
      · rename_i hge
        refine List.pairwise_cons.mpr ⟨fun y hy => ?_, ins_rise p r h'.2⟩
        rcases (ins_mem p y r).mp hy with rfl | hy
        · by_cases c : slt q.1 p.1
          · exact c
          · exact absurd (slt_tot hge c) hne
        · exact h'.1 y hy
theorem sortP_app (ps : List Pr) (p : Pr) : sortP (ps ++ [p]) = ins p (sortP ps) := by
  unfold sortP
  rw [List.foldl_append]
  rfl
/-- what is reckoned over the pairs -/
def dot (f : Str → Int) (ps : List Pr) : Int := (ps.map fun p => p.2 * f p.1).sum
theorem dot_nil (f : Str → Int) : dot f [] = 0 := rfl
theorem dot_cons (f : Str → Int) (p : Pr) (ps : List Pr) : dot f (p :: ps) = p.2 * f p.1 + dot f ps := by
  unfold dot
  rw [List.map_cons, List.sum_cons]
theorem dot_app (f : Str → Int) (ps qs : List Pr) : dot f (ps ++ qs) = dot f ps + dot f qs := by
  unfold dot
  rw [List.map_append, List.sum_append]
theorem ins_dot (f : Str → Int) (p : Pr) : ∀ r : List Pr, dot f (ins p r) = p.2 * f p.1 + dot f r
  | [] => dot_cons f p []
  | q :: r => by
    unfold ins
    split
    · rename_i h
      rw [dot_cons, dot_cons, h, Int.add_mul]
      show q.2 * f q.1 + p.2 * f q.1 + dot f r = _
      omega
    · split
      · rw [dot_cons]
      · rw [dot_cons, ins_dot f p r, dot_cons]
        omega
theorem sortP_dot (f : Str → Int) (ps : List Pr) : dot f (sortP ps) = dot f ps := by
  have key : ∀ (ps acc : List Pr), dot f (ps.foldl (fun acc p => ins p acc) acc) = dot f acc + dot f ps := by
    intro ps
    induction ps with
    | nil => intro acc; rw [dot_nil, Int.add_zero]; rfl
    | cons p ps ih =>
      intro acc
      rw [List.foldl_cons, ih, ins_dot, dot_cons]
      omega
  unfold sortP
  rw [key, dot_nil, Int.zero_add]
theorem filter_dot (f : Str → Int) (ps : List Pr) : dot f (ps.filter fun p => decide (p.2 ≠ 0)) = dot f ps := by
  induction ps with
  | nil => rfl
  | cons p ps ih =>
    rw [List.filter_cons]
    by_cases h : p.2 = 0
    · rw [if_neg (by simp [h]), ih, dot_cons, h, Int.zero_mul, Int.zero_add]
    · rw [if_pos (by simpa using h), dot_cons, dot_cons, ih]
theorem nrm_dot (f : Str → Int) (ps : List Pr) : dot f (nrm ps) = dot f ps := (filter_dot f _).trans (sortP_dot f ps)
theorem shr_dot (ps : List Pr) (x : Str) : shr ps x = dot (fun y => if y = x then 1 else 0) ps := by
  induction ps with
  | nil => rfl
  | cons p ps ih =>
    rw [shr_cons, dot_cons, ih]
    split
    · rw [Int.mul_one]
    · rw [Int.mul_zero]
theorem sortP_rise (ps : List Pr) : Rising ((sortP ps).map (·.1)) := by
  have key : ∀ (ps acc : List Pr), Rising (acc.map (·.1)) → Rising ((ps.foldl (fun acc p => ins p acc) acc).map (·.1)) := by
    intro ps
    induction ps with
    | nil => intro acc h; exact h
    | cons p ps ih => intro acc h; exact ih _ (ins_rise p acc h)
  exact key ps [] List.Pairwise.nil
theorem sortP_mem (ps : List Pr) (x : Str) : x ∈ (sortP ps).map (·.1) ↔ x ∈ ps.map (·.1) := by
  have key : ∀ (ps acc : List Pr), x ∈ (ps.foldl (fun acc p => ins p acc) acc).map (·.1) ↔ x ∈ acc.map (·.1) ∨ x ∈ ps.map (·.1) := by
    intro ps
    induction ps with
    | nil => intro acc; simp
    | cons p ps ih =>
      intro acc
      rw [List.foldl_cons, ih, ins_mem, List.map_cons, List.mem_cons]
      constructor
      · rintro ((h | h) | h)
        · exact .inr (.inl h)
        · exact .inl h
        · exact .inr (.inr h)
      · rintro (h | h | h)
        · exact .inl (.inr h)
        · exact .inl (.inl h)
        · exact .inr h
  unfold sortP
  rw [key]
  simp
theorem nrm_norm (ps : List Pr) : Norm (nrm ps) where
  rise := by
    have h : ((nrm ps).map (·.1)).Sublist ((sortP ps).map (·.1)) := (List.filter_sublist).map _
    exact List.Pairwise.sublist h (sortP_rise ps)
  nz := fun p hp => by simpa using (List.mem_filter.mp hp).2
theorem nrm_shr (ps : List Pr) (x : Str) : shr (nrm ps) x = shr ps x := by rw [shr_dot, nrm_dot, ← shr_dot]
theorem nrm_mem {ps : List Pr} {x : Str} (h : x ∈ (nrm ps).map (·.1)) : x ∈ ps.map (·.1) := by
  obtain ⟨p, hp, rfl⟩ := List.mem_map.mp h
  exact (sortP_mem ps _).mp (List.mem_map_of_mem (List.mem_filter.mp hp).1)
theorem norm_is {ps out : List Pr} (n : Norm out) (h : ∀ x, shr out x = shr ps x) : out = nrm ps := norm_ext n (nrm_norm ps) fun x => by rw [h, nrm_shr]
theorem ins_len (p : Pr) : ∀ r : List Pr, (ins p r).length ≤ r.length + 1
  | [] => Nat.le_refl _
  | q :: r => by
    unfold ins
    split
    · simp
    · split
      · simp
      · have := ins_len p r
        simp
        omega
theorem nrm_len (ps : List Pr) : (nrm ps).length ≤ ps.length := by
  have key : ∀ (ps acc : List Pr), (ps.foldl (fun acc p => ins p acc) acc).length ≤ acc.length + ps.length := by
    intro ps
    induction ps with
    | nil => intro acc; exact Nat.le_refl _
    | cons p ps ih =>
      intro acc
      have h1 := ih (ins p acc)
      have h2 := ins_len p acc
      rw [List.foldl_cons, List.length_cons]
      omega
  have h1 := key ps []
  have h2 := List.length_filter_le (fun p : Pr => decide (p.2 ≠ 0)) (sortP ps)
  unfold nrm
  unfold sortP at h2 ⊢
  simp at h1
  omega
/-- the functions of sums -/
def mkS (n : Int) (ps : List Pr) : Sm := (n, nrm ps)
def addS (s o : Sm) : Sm := mkS (s.1 + o.1) (s.2 ++ o.2)
def timS (c : Int) (s : Sm) : Sm := mkS (c * s.1) (s.2.map fun p => (p.1, c * p.2))
def woS (s : Sm) (x : Str) : Sm := mkS s.1 (s.2.filter fun p => decide (p.1 ≠ x))
def putS (s : Sm) (x : Str) (o : Sm) : Sm := addS (woS s x) (timS (shr s.2 x) o)
def valS (f : Str → Int) (s : Sm) : Int := s.1 + dot f s.2
theorem val_mk (f : Str → Int) (n : Int) (ps : List Pr) : valS f (mkS n ps) = n + dot f ps := by unfold valS mkS; rw [nrm_dot]
theorem val_add (f : Str → Int) (s o : Sm) : valS f (addS s o) = valS f s + valS f o := by
  unfold addS
  rw [val_mk, dot_app]
  unfold valS
  omega
theorem dot_map (f : Str → Int) (c : Int) (ps : List Pr) : dot f (ps.map fun p => (p.1, c * p.2)) = c * dot f ps := by
  induction ps with
  | nil => rw [List.map_nil, dot_nil, Int.mul_zero]
  | cons p ps ih => rw [List.map_cons, dot_cons, dot_cons, ih, Int.mul_add, Int.mul_assoc]
theorem val_tim (f : Str → Int) (c : Int) (s : Sm) : valS f (timS c s) = c * valS f s := by
  unfold timS
  rw [val_mk, dot_map]
  unfold valS
  rw [Int.mul_add]
theorem dot_wo (f : Str → Int) (ps : List Pr) (x : Str) : dot f (ps.filter fun p => decide (p.1 ≠ x)) = dot f ps - shr ps x * f x := by
  induction ps with
  | nil => rw [List.filter_nil, dot_nil, shr_nil, Int.zero_mul]; rfl
  | cons p ps ih =>
    rw [List.filter_cons, shr_cons, dot_cons]
    by_cases h : p.1 = x
    · rw [if_neg (by simp [h]), if_pos h, ih, h, Int.add_mul]
      omega
    · rw [if_pos (by simpa using h), if_neg h, dot_cons, ih, Int.zero_add]
      omega
theorem val_wo (f : Str → Int) (s : Sm) (x : Str) : valS f (woS s x) = valS f s - shr s.2 x * f x := by
  unfold woS
  rw [val_mk, dot_wo]
  unfold valS
  omega
theorem val_put (f : Str → Int) (s : Sm) (x : Str) (o : Sm) : valS f (putS s x o) = valS f s - shr s.2 x * f x + shr s.2 x * valS f o := by
  unfold putS
  rw [val_add, val_wo, val_tim]
theorem shr_wo (s : Sm) (x y : Str) : shr (woS s x).2 y = if y = x then 0 else shr s.2 y := by
  show shr (nrm _) y = _
  rw [nrm_shr, shr_dot, dot_wo, ← shr_dot]
  by_cases h : y = x
  · subst h
    rw [if_pos rfl, if_pos rfl, Int.mul_one, Int.sub_self]
  · rw [if_neg h, if_neg (fun e => h e.symm), Int.mul_zero, Int.sub_zero]
theorem shr_add (s o : Sm) (y : Str) : shr (addS s o).2 y = shr s.2 y + shr o.2 y := by
  show shr (nrm _) y = _
  rw [nrm_shr, shr_app]
theorem shr_tim (c : Int) (s : Sm) (y : Str) : shr (timS c s).2 y = c * shr s.2 y := by
  show shr (nrm _) y = _
  rw [nrm_shr, shr_dot, dot_map, ← shr_dot]
theorem shr_put (s : Sm) (x : Str) (o : Sm) (y : Str) : shr (putS s x o).2 y = (if y = x then 0 else shr s.2 y) + shr s.2 x * shr o.2 y := by
  unfold putS
  rw [shr_add, shr_wo, shr_tim]
/-! ### numbers that may be multiplied -/
def Sml (i : Int) : Prop := i.natAbs.log2 < 400000
theorem sml_of {i : Int} {n : Nat} (h : i.natAbs < 2 ^ n) (hn : n ≤ 400000) : Sml i := by
  unfold Sml
  by_cases h0 : i.natAbs = 0
  · rw [h0]; decide
  · have := (Nat.log2_lt h0).mpr h
    omega
theorem ten_two : (10 : Nat) ^ 60 < 2 ^ 200 := by decide
theorem sml_big (c : Int) : Sml (bigBy c) := sml_of (Nat.lt_trans (bigBy_b c) ten_two) (by decide)
theorem sml_small {i : Int} (h : i.natAbs < 2 ^ 64) : Sml i := sml_of h (by decide)
theorem mul_ok {i j : Int} (h1 : Sml i) (h2 : Sml j) : CMulW i j := by
  unfold Sml at h1 h2
  unfold CMulW
  omega
/-- the numbers of a sum -/
def SmlS (s : Sm) : Prop := Sml s.1 ∧ ∀ p ∈ s.2, Sml p.2
/-! ### promises -/
def sp_mk (K : PySem.W.Frag) : Sp := fun vs H Q _ => ∃ (n : Int) (v : V) (ps : List Pr), vs = [.int n, v] ∧ Dp K H v (.list (ps.map prT)) ∧ ps.length < 64 ∧
  ∀ t H', Same H H' → Dp K H' (.ref t) (sumD (mkS n ps)) → Q (.ref t) H'
theorem mk_imp {K : PySem.W.Frag} (vs : List V) (H : Hp) (Q : VK) (E : XK) (h : sp_mk K vs H Q E) : sp_made K vs H Q E := by
  obtain ⟨n, v, ps, e, hd, hl, q⟩ := h
  refine ⟨n, v, ps, e, hd, hl, fun t H' out e n s sub d => q t H' e ?_⟩
  rw [norm_is n s] at d
  exact d
def sp_added (K : PySem.W.Frag) : Sp := fun vs H Q _ => ∃ (v u : V) (s o : Sm), vs = [v, u] ∧ Dp K H v (sumD s) ∧ Dp K H u (sumD o) ∧ s.2.length + o.2.length < 64 ∧
  ∀ t H', Same H H' → Dp K H' (.ref t) (sumD (addS s o)) → Q (.ref t) H'
def sp_times (K : PySem.W.Frag) : Sp := fun vs H Q _ => ∃ (c : Int) (v : V) (s : Sm), vs = [.int c, v] ∧ Dp K H v (sumD s) ∧ s.2.length < 64 ∧ Sml c ∧ SmlS s ∧
  ∀ t H', Same H H' → Dp K H' (.ref t) (sumD (timS c s)) → Q (.ref t) H'
def sp_without (K : PySem.W.Frag) : Sp := fun vs H Q _ => ∃ (v : V) (s : Sm) (x : Str), vs = [v, .str x] ∧ Dp K H v (sumD s) ∧ s.2.length < 64 ∧
  ∀ t H', Same H H' → Dp K H' (.ref t) (sumD (woS s x)) → Q (.ref t) H'
def sp_put_in (K : PySem.W.Frag) : Sp := fun vs H Q _ => ∃ (v u : V) (s o : Sm) (x : Str), vs = [v, .str x, u] ∧ Dp K H v (sumD s) ∧ Dp K H u (sumD o) ∧ (s.2.map (·.1)).Nodup ∧ s.2.length + o.2.length < 64 ∧ SmlS s ∧ SmlS o ∧
  ∀ t H', Same H H' → Dp K H' (.ref t) (sumD (putS s x o)) → Q (.ref t) H'
/-- values told by a dict -/
def look (m : List Pr) (x : Str) : Int := (getP m x).getD 0
theorem getP_look {m : List Pr} {x : Str} (h : x ∈ m.map (·.1)) : getP m x = some (look m x) := by
  have h2 := getP_some (m := m) (x := x)
  rw [decide_eq_true h] at h2
  unfold look
  cases q1 : getP m x with
  | none => rw [q1] at h2; cases h2
  | some k => rfl
theorem look_sml {m : List Pr} {x : Str} (sm : ∀ q ∈ m, Sml q.2) (hv : getP m x = some (look m x)) : Sml (look m x) := by
  unfold getP at hv
  cases q1 : m.find? (fun q => decide (q.1 = x)) with
  | none => rw [q1] at hv; cases hv
  | some k =>
    rw [q1] at hv
    have hv' := Option.some.inj hv
    rw [← hv']
    exact sm k (List.mem_of_find?_eq_some q1)
def sp_value (K : PySem.W.Frag) (NV : Addr) : Sp := fun vs H Q E => ∃ (v : V) (d : Addr) (s : Sm) (m : List Pr), vs = [v, .ref d] ∧ Dp K H v (sumD s) ∧ H d = some (.dK (dOf m)) ∧ SmlS s ∧ (∀ q ∈ m, Sml q.2) ∧ (∀ p ∈ s.2, p.1.length ≤ 1000) ∧
  ((∀ p ∈ s.2, p.1 ∈ m.map (·.1)) → Q (.int (valS (look m) s)) H) ∧ ((∃ p ∈ s.2, p.1 ∉ m.map (·.1)) → E (.ref NV) none H)
/-! ### the sums that the law draws -/
def srt (xs : List Str) : List Str := (sortP (xs.map fun x => (x, 0))).map (·.1)
theorem srt_rise (xs : List Str) : Rising (srt xs) := sortP_rise _
theorem srt_mem (xs : List Str) (x : Str) : x ∈ srt xs ↔ x ∈ xs := by
  unfold srt
  rw [sortP_mem, List.map_map]
  show x ∈ xs.map id ↔ _
  rw [List.map_id]
theorem srt_is {xs ys : List Str} (nd : xs.Nodup) (hp : ys.Perm xs) (hs : sortedS ys = true) : ys = srt xs :=
  rising_ext (rising_of (hp.nodup_iff.mpr nd) hs) (srt_rise xs) fun x => by rw [hp.mem_iff, srt_mem]
def byOf (wd m : Int) : Int := m / 7 % (2 * wd + 1) - wd
theorem byOf_b {wd : Int} (h : 0 ≤ wd) (m : Int) : -wd ≤ byOf wd m ∧ byOf wd m ≤ wd := by
  have h1 : 0 ≤ m / 7 % (2 * wd + 1) := Int.emod_nonneg _ (by omega)
  have h2 : m / 7 % (2 * wd + 1) < 2 * wd + 1 := Int.emod_lt_of_pos _ (by omega)
  unfold byOf
  omega
def sumTurn (wd : Int) (s : Int × List Pr) (x : Str) : Int × List Pr := (mixN s.1, if byOf wd (mixN s.1) = 0 then s.2 else s.2 ++ [(x, byOf wd (mixN s.1))])
def sumRun (wd c : Int) (ys : List Str) : Int × List Pr := ys.foldl (sumTurn wd) (c, [])
theorem sumRun_more (wd c : Int) (ys : List Str) (x : Str) : sumRun wd c (ys ++ [x]) = sumTurn wd (sumRun wd c ys) x := by
  unfold sumRun
  rw [List.foldl_append]
  rfl
def sumBy (c : Int) (names : List Str) (wd : Int) : Sm := (mixN (sumRun wd c (srt names)).1 / 7 % 19 - 9, (sumRun wd c (srt names)).2)
/-- the parts so far: some of the names, in their order -/
theorem sumRun_ok (wd c : Int) (hw : 0 ≤ wd) : ∀ ys : List Str, ((sumRun wd c ys).2.map (·.1)).Sublist ys ∧ (∀ p ∈ (sumRun wd c ys).2, p.2 ≠ 0 ∧ p.2.natAbs ≤ wd.toNat) := by
  intro ys
  have key : ∀ n, ∀ ys : List Str, ys.length = n → ((sumRun wd c ys).2.map (·.1)).Sublist ys ∧ (∀ p ∈ (sumRun wd c ys).2, p.2 ≠ 0 ∧ p.2.natAbs ≤ wd.toNat) := by
    intro n
    induction n with
    | zero =>
      intro ys h
      cases ys with
      | nil => exact ⟨List.Sublist.slnil, fun p hp => by cases hp⟩
      | cons y ys => simp at h
    | succ n ih =>
      intro ys h
      have hne : ys ≠ [] := fun e => by rw [e] at h; simp at h
      have e := List.dropLast_concat_getLast hne
      generalize ys.dropLast = zs at e
      generalize ys.getLast hne = x at e
      subst e
      have ih' := ih zs (by simpa using h)
      rw [sumRun_more]
      have hb := byOf_b hw (mixN (sumRun wd c zs).1)
      unfold sumTurn
      by_cases h0 : byOf wd (mixN (sumRun wd c zs).1) = 0
      · simp only [if_pos h0]
        exact ⟨ih'.1.trans (List.sublist_append_left _ _), ih'.2⟩
      · simp only [if_neg h0]
        refine ⟨?_, fun p hp => ?_⟩
        · rw [List.map_append]
          exact ih'.1.append (List.Sublist.refl _)
        · rcases List.mem_append.mp hp with hp | hp
          · exact ih'.2 p hp
          · simp at hp
            subst hp
            exact ⟨h0, by show (byOf wd _).natAbs ≤ _; omega⟩
  exact key _ ys rfl
theorem sumBy_norm {c wd : Int} {names : List Str} (hw : 0 ≤ wd) : Norm (sumBy c names wd).2 where
  rise := List.Pairwise.sublist (sumRun_ok wd c hw _).1 (srt_rise names)
  nz := fun p hp => ((sumRun_ok wd c hw _).2 p hp).1
theorem sumBy_mem {c wd : Int} {names : List Str} (hw : 0 ≤ wd) {p : Pr} (hp : p ∈ (sumBy c names wd).2) : p.1 ∈ names :=
  (srt_mem names _).mp ((sumRun_ok wd c hw _).1.subset (List.mem_map_of_mem hp))
theorem sumBy_by {c wd : Int} {names : List Str} (hw : 0 ≤ wd) {p : Pr} (hp : p ∈ (sumBy c names wd).2) : p.2.natAbs ≤ wd.toNat := ((sumRun_ok wd c hw _).2 p hp).2
theorem srt_len (xs : List Str) : (srt xs).length ≤ xs.length := by
  unfold srt
  rw [List.length_map]
  have key : ∀ (ps acc : List Pr), (ps.foldl (fun acc p => ins p acc) acc).length ≤ acc.length + ps.length := by
    intro ps
    induction ps with
    | nil => intro acc; exact Nat.le_refl _
    | cons p ps ih =>
      intro acc
      have h1 := ih (ins p acc)
      have h2 := ins_len p acc
      rw [List.foldl_cons, List.length_cons]
      omega
  have := key (xs.map fun x => (x, 0)) []
  rw [List.length_map] at this
  unfold sortP
  simpa using this
theorem sumBy_len {c wd : Int} {names : List Str} (hw : 0 ≤ wd) : (sumBy c names wd).2.length ≤ names.length := by
  have h1 := (sumRun_ok wd c hw (srt names)).1.length_le
  rw [List.length_map] at h1
  exact Nat.le_trans h1 (srt_len names)
theorem sumBy_num (c wd : Int) (names : List Str) : (sumBy c names wd).1.natAbs ≤ 9 := by
  have h1 : 0 ≤ mixN (sumRun wd c (srt names)).1 / 7 % 19 := Int.emod_nonneg _ (by decide)
  have h2 : mixN (sumRun wd c (srt names)).1 / 7 % 19 < 19 := Int.emod_lt_of_pos _ (by decide)
  show (mixN (sumRun wd c (srt names)).1 / 7 % 19 - 9).natAbs ≤ 9
  omega
theorem sumBy_sml {c wd : Int} {names : List Str} (hw : 0 ≤ wd) (hw2 : wd ≤ 1000) : SmlS (sumBy c names wd) := by
  refine ⟨sml_small ?_, fun p hp => sml_small ?_⟩
  · have := sumBy_num c wd names
    exact Nat.lt_of_le_of_lt this (by decide)
  · have := sumBy_by hw hp
    exact Nat.lt_of_le_of_lt this (by omega)
theorem inV_str (x : Str) (xs : List Str) : inV (.str x) (xs.map V.str) = decide (x ∈ xs) := by
  unfold inV
  rw [List.any_map, Bool.eq_iff_iff]
  simp only [List.any_eq_true, decide_eq_true_eq, Function.comp, eqV, beq_iff_eq]
  constructor
  · rintro ⟨y, hy, rfl⟩
    exact hy
  · intro h
    exact ⟨x, h, rfl⟩
theorem flat_strs (xs : List Str) : (xs.map V.str).all flatV = true := by
  rw [List.all_map]
  simp [flatV]
def sp_sum_by (K : PySem.W.Frag) : Sp := fun vs H Q _ => ∃ (c wd : Int) (nl : Addr) (names : List Str), vs = [.int c, .ref nl, .int wd] ∧ SqL K H nl (names.map V.str) ∧ names.Nodup ∧ names.length ≤ 8 ∧ 0 ≤ wd ∧ wd ≤ 1000 ∧
  ∀ t H', Same H H' → Dp K H' (.ref t) (sumD (sumBy c names wd)) → Q (.ref t) H'
def sp_lvalue (K : PySem.W.Frag) : Sp := fun vs H Q _ => ∃ (v : V) (d : Addr) (s : Sm) (m : List Pr), vs = [v, .ref d] ∧ Dp K H v (sumD s) ∧ H d = some (.dK (dOf m)) ∧ SmlS s ∧ (∀ q ∈ m, Sml q.2) ∧ (∀ p ∈ s.2, p.1 ∈ m.map (·.1)) ∧ Q (.int (valS (look m) s)) H
def sp_sum_is (K : PySem.W.Frag) : Sp := fun vs H Q _ => ∃ (v : V) (nl : Addr) (s : Sm) (names : List Str), vs = [v, .ref nl] ∧ Dp K H v (sumD s) ∧ SqL K H nl (names.map V.str) ∧ Norm s.2 ∧ (∀ p ∈ s.2, p.1 ∈ names ∧ p.1.cps.toList ≠ []) ∧ Q (.bl true) H
theorem noval_len (x : Str) : ((Str.empty ++ ("no value is known for " : Str)) ++ x).length = 22 + x.length := by
  have e1 : (Str.empty ++ ("no value is known for " : Str)).length = 22 := by decide +kernel
  have e2 : ((Str.empty ++ ("no value is known for " : Str)) ++ x).length = (Str.empty ++ ("no value is known for " : Str)).length + x.length := by
    show ((Str.empty ++ ("no value is known for " : Str)).cps ++ x.cps).size = _
    rw [Array.size_append]
    rfl
  rw [e2, e1]
/-- the name before place i, nothing ahead of all -/
def lastN (ps : List Pr) : Nat → Str
  | 0 => ""
  | i + 1 => (ps.getD i ("", 0)).1
theorem lastN_next {ps : List Pr} {i : Nat} {p : Pr} (h : ps[i]? = some p) : lastN ps (i + 1) = p.1 := by
  show (ps.getD i ("", 0)).1 = p.1
  rw [List.getD_eq_getElem?_getD, h]
  rfl
theorem lastN_lt {ps : List Pr} {i : Nat} {p : Pr} (no : Norm ps) (h : ps[i]? = some p) (h0 : p.1.cps.toList ≠ []) : (lastN ps i).cps.toList < p.1.cps.toList := by
  cases i with
  | zero =>
    show ([] : List Nat) < _
    cases e : p.1.cps.toList with
    | nil => exact absurd e h0
    | cons x xs => exact List.Lex.nil
  | succ i =>
    have hlt : i + 1 < ps.length := (List.getElem?_eq_some_iff.mp h).1
    have hp : ps[i]? = some ps[i] := List.getElem?_eq_getElem (by omega)
    rw [lastN_next hp]
    have r := List.pairwise_iff_getElem.mp no.rise i (i + 1) (by simpa using (by omega : i < ps.length)) (by simpa using hlt) (by omega)
    rw [List.getElem_map, List.getElem_map] at r
    have e2 : ps[i + 1] = p := (List.getElem?_eq_some_iff.mp h).2
    rw [e2] at r
    exact slt_lt.mp r
/-- refused of k02 -/
def sp_refused2 (K : PySem.W.Frag) : Sp := fun vs H Q _ => ∃ (v : V) (d : Addr) (s : Sm) (m : List Pr), vs = [v, .ref d] ∧ Dp K H v (sumD s) ∧ H d = some (.dK (dOf m)) ∧ SmlS s ∧ (∀ q ∈ m, Sml q.2) ∧ (∀ p ∈ s.2, p.1.length ≤ 1000) ∧
  ∀ H', Same H H' → Q (.str (if s.2.all fun p => decide (p.1 ∈ m.map (·.1)) then "" else "no value")) H'
end XS

namespace XS
open PySem PySem.Spec PyProof.Rows L2
/-! ### pieces of lists -/
theorem cut_take (xs : List V) (k : Nat) : cutV xs none (some (k : Int)) = xs.take k := by
  unfold cutV
  rw [HT.sIx_none, HT.sIx_nat, List.drop_zero, Nat.sub_zero]
  rcases Nat.le_total k xs.length with h | h
  · rw [Nat.min_eq_left h]
  · rw [Nat.min_eq_right h, List.take_length, List.take_of_length_le h]
theorem cut_drop (xs : List V) (k : Nat) : cutV xs (some (k : Int)) none = xs.drop k := by
  unfold cutV
  rw [HT.sIx_none, HT.sIx_nat]
  rcases Nat.le_total k xs.length with h | h
  · rw [Nat.min_eq_left h, List.take_of_length_le (by rw [List.length_drop]; exact Nat.le_refl _)]
  · rw [Nat.min_eq_right h, List.drop_eq_nil_of_le h, List.drop_eq_nil_of_le (Nat.le_refl _)]
    simp
/-! ### values -/
theorem putP_new {m : List Pr} {x : Str} {v : Int} (h : x ∉ m.map (·.1)) : putP m x v = m ++ [(x, v)] := by
  unfold putP
  rw [getP_any, decide_eq_false h, if_neg Bool.false_ne_true]
def dropP (m : List Pr) (x : Str) : List Pr := m.filter fun p => decide (p.1 ≠ x)
theorem dOf_drop (m : List Pr) (x : Str) : dropK (dOf m) (Sum.inr x : Key) = dOf (dropP m x) := by
  unfold dropK dOf dropP
  rw [List.filter_map]
  congr 1
  refine List.filter_congr fun p _ => ?_
  show decide ((Sum.inr p.1 : Key) ≠ Sum.inr x) = decide (p.1 ≠ x)
  rw [decide_not, decide_not, inr_dec]
theorem dropP_names (m : List Pr) (x y : Str) : y ∈ (dropP m x).map (·.1) ↔ y ∈ m.map (·.1) ∧ y ≠ x := by
  unfold dropP
  simp only [List.mem_map, List.mem_filter, decide_eq_true_eq]
  constructor
  · rintro ⟨p, ⟨h1, h2⟩, rfl⟩
    exact ⟨⟨p, h1, rfl⟩, h2⟩
  · rintro ⟨⟨p, h1, rfl⟩, h2⟩
    exact ⟨p, ⟨h1, h2⟩, rfl⟩
theorem dropP_nd {m : List Pr} (x : Str) (nd : (m.map (·.1)).Nodup) : ((dropP m x).map (·.1)).Nodup := List.Nodup.sublist ((List.filter_sublist).map _) nd
theorem dOf_self {m : List Pr} (nd : (m.map (·.1)).Nodup) : ∀ p ∈ dOf m, valV (dOf m) p.1 = some p.2 ∧ flatB p.2 = true := by
  intro q hq
  obtain ⟨p, hp, rfl⟩ := List.mem_map.mp hq
  refine ⟨?_, rfl⟩
  show valV (dOf m) (Sum.inr p.1 : Key) = some (V.int p.2)
  rw [dOf_val]
  have : getP m p.1 = some p.2 := by
    clear hq
    induction m with
    | nil => cases hp
    | cons q m ih =>
      have nd' := List.nodup_cons.mp (show (q.1 :: m.map (·.1)).Nodup from nd)
      unfold getP at ih ⊢
      rw [List.find?_cons]
      rcases List.mem_cons.mp hp with rfl | hp
      · rw [decide_eq_true rfl]; rfl
      · rw [decide_eq_false (fun e => nd'.1 (by rw [e]; exact List.mem_map_of_mem hp))]
        exact ih nd'.2 hp
  rw [this]
  rfl
/-! ### bounds -/
def Bnd (n k : Nat) (s : Sm) : Prop := s.1.natAbs ≤ n ∧ ∀ x, (shr s.2 x).natAbs ≤ k
theorem Bnd.sml {n k : Nat} {s : Sm} (b : Bnd n k s) (nd : (s.2.map (·.1)).Nodup) (hn : n < 2 ^ 250) (hk : k < 2 ^ 250) : SmlS s :=
  ⟨sml_of (Nat.lt_of_le_of_lt b.1 hn) (by decide), fun p hp => sml_of (n := 250) (Nat.lt_of_le_of_lt (by rw [← shr_at nd hp]; exact b.2 p.1) hk) (by decide)⟩
theorem Bnd.mono {n k n' k' : Nat} {s : Sm} (b : Bnd n k s) (h1 : n ≤ n') (h2 : k ≤ k') : Bnd n' k' s := ⟨Nat.le_trans b.1 h1, fun x => Nat.le_trans (b.2 x) h2⟩
theorem Bnd.add {n k n' k' : Nat} {s o : Sm} (b : Bnd n k s) (c : Bnd n' k' o) : Bnd (n + n') (k + k') (addS s o) := by
  refine ⟨?_, fun x => ?_⟩
  · have h1 := b.1; have h2 := c.1
    show (s.1 + o.1).natAbs ≤ _
    omega
  · rw [shr_add]
    have h1 := b.2 x; have h2 := c.2 x
    omega
theorem Bnd.tim {n k m : Nat} {c : Int} {s : Sm} (b : Bnd n k s) (h : c.natAbs ≤ m) : Bnd (m * n) (m * k) (timS c s) := by
  refine ⟨?_, fun x => ?_⟩
  · show (c * s.1).natAbs ≤ _
    rw [Int.natAbs_mul]
    exact Nat.mul_le_mul h b.1
  · rw [shr_tim, Int.natAbs_mul]
    exact Nat.mul_le_mul h (b.2 x)
theorem Bnd.wo {n k : Nat} {s : Sm} (b : Bnd n k s) (x : Str) : Bnd n k (woS s x) := by
  refine ⟨b.1, fun y => ?_⟩
  rw [shr_wo]
  split
  · exact Nat.zero_le _
  · exact b.2 y
theorem Bnd.put {n k n' k' : Nat} {s o : Sm} (b : Bnd n k s) (x : Str) (c : Bnd n' k' o) : Bnd (n + k * n') (k + k * k') (putS s x o) := (b.wo x).add (c.tim (b.2 x))
theorem bnd_by {c wd : Int} {names : List Str} (hw : 0 ≤ wd) : Bnd 9 wd.toNat (sumBy c names wd) := by
  refine ⟨sumBy_num c wd names, fun x => ?_⟩
  by_cases h : x ∈ (sumBy c names wd).2.map (·.1)
  · obtain ⟨p, hp, rfl⟩ := List.mem_map.mp h
    rw [shr_at (sumBy_norm hw).rise.nodup hp]
    exact sumBy_by hw hp
  · rw [shr_out h]
    exact Nat.zero_le _
/-! ### names -/
theorem add_mem {s o : Sm} {x : Str} (h : x ∈ (addS s o).2.map (·.1)) : x ∈ s.2.map (·.1) ∨ x ∈ o.2.map (·.1) := by
  have := nrm_mem h
  rw [List.map_append, List.mem_append] at this
  exact this
theorem tim_mem {c : Int} {s : Sm} {x : Str} (h : x ∈ (timS c s).2.map (·.1)) : x ∈ s.2.map (·.1) := by
  have := nrm_mem h
  rw [List.map_map] at this
  exact this
theorem wo_mem {s : Sm} {x y : Str} (h : y ∈ (woS s x).2.map (·.1)) : y ∈ s.2.map (·.1) ∧ y ≠ x := by
  have := nrm_mem h
  obtain ⟨p, hp, rfl⟩ := List.mem_map.mp this
  have h2 := List.mem_filter.mp hp
  exact ⟨List.mem_map_of_mem h2.1, by simpa using h2.2⟩
theorem put_mem {s o : Sm} {x y : Str} (h : y ∈ (putS s x o).2.map (·.1)) : y ∈ s.2.map (·.1) ∨ y ∈ o.2.map (·.1) := by
  rcases add_mem h with h | h
  · exact .inl (wo_mem h).1
  · exact .inr (tim_mem h)
/-- a sum, a number -/
def rowD (r : Sm × Int) : PyData := .tuple [sumD r.1, .int r.2]
theorem im_row (r : Sm × Int) : Im (rowD r) := im_tup2 (im_sum _) (.int _)
theorem Dp.row {K : PySem.W.Frag} {H : Hp} {v : V} {r : Sm × Int} (h : Dp K H v (rowD r)) : ∃ a u, v = .ref a ∧ SqT K H a [u, .int r.2] ∧ Dp K H u (sumD r.1) := by
  cases h with
  | tup hs ha =>
    cases ha with
    | cons h1 h2 =>
      cases h2 with
      | cons h3 h4 =>
        cases h3
        cases h4
        exact ⟨_, _, rfl, hs, h1⟩
end XS
namespace XS
open PySem PySem.Spec PyProof.Rows L2
theorem cut_take3 (xs : List V) : cutV xs none (some 3) = xs.take 3 := cut_take xs 3
theorem cut_drop1 (xs : List V) : cutV xs (some 1) none = xs.drop 1 := cut_drop xs 1
theorem getAt {m : List Pr} {x : Str} {H : Hp} {d : Addr} (hd : H d = some (.dK (dOf m))) (h : x ∈ m.map (·.1)) : DGet H d (.str x) (some (.int (look m x))) := by
  have g := DGet.k (k := Sum.inr x) hd
  rw [dOf_val, getP_look h] at g
  exact g
theorem getAny {m : List Pr} {x : Str} {H : Hp} {d : Addr} (hd : H d = some (.dK (dOf m))) : DGet H d (.str x) ((getP m x).map V.int) := by
  have g := DGet.k (k := Sum.inr x) hd
  rw [dOf_val] at g
  exact g
end XS
namespace XS
open PySem PySem.Spec PyProof.Rows L2
theorem dot_b {f : Str → Int} {k B : Nat} : ∀ {ps : List Pr}, (∀ p ∈ ps, p.2.natAbs ≤ k) → (∀ x, (f x).natAbs ≤ B) → (dot f ps).natAbs ≤ ps.length * (k * B)
  | [], _, _ => by rw [dot_nil]; exact Nat.zero_le _
  | p :: ps, h, hf => by
    rw [dot_cons, List.length_cons, Nat.add_mul, Nat.one_mul]
    have h1 := dot_b (ps := ps) (fun q hq => h q (List.mem_cons_of_mem _ hq)) hf
    have h2 : (p.2 * f p.1).natAbs ≤ k * B := by
      rw [Int.natAbs_mul]
      exact Nat.mul_le_mul (h p (List.mem_cons_self ..)) (hf p.1)
    have h3 := Int.natAbs_add_le (p.2 * f p.1) (dot f ps)
    omega
theorem look_b {m : List Pr} {B : Nat} (h : ∀ q ∈ m, q.2.natAbs ≤ B) (x : Str) : (look m x).natAbs ≤ B := by
  unfold look getP
  cases e : m.find? (fun p => decide (p.1 = x)) with
  | none => exact Nat.zero_le _
  | some p => exact h p (List.mem_of_find?_eq_some e)
theorem Bnd.prt {n k : Nat} {s : Sm} (b : Bnd n k s) (nd : (s.2.map (·.1)).Nodup) : ∀ p ∈ s.2, p.2.natAbs ≤ k := fun p hp => by rw [← shr_at nd hp]; exact b.2 p.1
theorem Bnd.val {n k B : Nat} {s : Sm} {m : List Pr} (b : Bnd n k s) (nd : (s.2.map (·.1)).Nodup) (h : ∀ q ∈ m, q.2.natAbs ≤ B) : (valS (look m) s).natAbs ≤ n + s.2.length * (k * B) := by
  have h1 := dot_b (f := look m) (b.prt nd) (look_b h)
  have h2 := b.1
  unfold valS
  omega
theorem sml_of' {i : Int} {n : Nat} (h : i.natAbs ≤ n) (hn : n < 2 ^ 250) : Sml i := sml_of (Nat.lt_of_le_of_lt h hn) (by decide)
theorem sml_all {m : List Pr} (h : ∀ q ∈ m, q.2.natAbs ≤ 10 ^ 60) : ∀ q ∈ m, Sml q.2 := fun q hq => sml_of' (h q hq) (by decide)
end XS
namespace XS
open PySem PySem.Spec PyProof.Rows L2
theorem none_of {H H1 : Hp} {p : Addr} (e : Same H H1) (h : H1 p = none) : H p = none := by
  cases q : H p with
  | none => rfl
  | some u => rw [e _ _ q] at h; cases h
theorem x_dpop1 {td ty : TE} {σ : L2.St} {H : Hp} {Q : VK} (h : td σ H fun x H1 => ∃ a, x = .ref a ∧ IsD H1 a ∧ ty σ H1 fun y H2 => ∃ kvs k v, H2 a = some (.dK kvs) ∧ y = kV k ∧ valV kvs k = some v ∧ Q v (upd H2 a (.dK (dropK kvs k)))) : tDPop1 td ty σ H Q := h
theorem Dp.mkRow {K : PySem.W.Frag} {H : Hp} {a : Addr} {u : V} {r : Sm × Int} (h1 : SqT K H a [u, .int r.2]) (h2 : Dp K H u (sumD r.1)) : Dp K H (.ref a) (rowD r) := .tup h1 (.cons h2 (.cons (.int _) .nil))
theorem isD_of {H : Hp} {a : Addr} {m : List (Key × V)} (h : H a = some (.dK m)) : IsD H a := .inl ⟨m, .inl h⟩
end XS

namespace XS
open PySem PySem.Spec PyProof.Rows L2
/-! ### what the top says of an error class -/
structure EcF (K : PySem.W.Frag) (D : Addr) : Prop where
  x : PySem.W.excIn K D [.type "ValueError", .type "Exception", .type "BaseException", .type "object"] "ValueError.__new__" = true
  k : PySem.W.keepIn K (.ref D) = true
  b : PySem.W.subIn K (.ref D) (.type "BaseException") = some true
  t : PySem.W.typeIn K (.ref D) = some (.type "type")
  d : PySem.W.hasDictIn K D = true
  ga : PySem.W.findIn K (.ref D) "__getattribute__" = some (some (.builtin "BaseException.__getattribute__"))
  gt : PySem.W.findIn K (.ref D) "__getattr__" = some none
  cl : PySem.W.findIn K (.ref D) "__class__" = some (some (.builtin "object.__class__"))
  mo : PySem.W.mroIn K D (.type "object") = some true
  ve : PySem.W.subIn K (.ref D) (.type "ValueError") = some true
  me : PySem.W.subIn K (.ref D) (.ref D) = some true
theorem EcF.c {K : PySem.W.Frag} {D : Addr} (e : EcF K D) (h1 : PySem.W.specialIn K (.builtin "object.__class__") "__get__" = some (some (.builtin "getset_descriptor.__get__"))) (h2 : PySem.W.takesIn K (.builtin "object.__class__") = some true) : ExcC K D :=
  ⟨e.ga, e.gt, e.b, e.d, e.cl, h1, h2, e.mo⟩
theorem kit_ref {K : PySem.W.Frag} {t : Value} {C : Addr} {b : Bool} (hd : PySem.W.hasDictIn K C = true) (ht : PySem.W.typeIn K (.ref C) = some (.type "type")) (h : PySem.W.subIn K t (.ref C) = some b) (hn : b = true ∨ (t == Value.ref C) = false) : PySem.W.kitOne K t (.ref C) = some b := by
  have hc : (PySem.W.clsIn K C).isSome = true := by
    unfold PySem.W.hasDictIn at hd
    cases e : PySem.W.clsIn K C with
    | none => rw [e] at hd; cases hd
    | some _ => rfl
  have e2 : ((PySem.W.clsIn K C).isSome && PySem.W.typeIn K (.ref C) == some (.type "type")) = true := by rw [hc, ht] <;> rfl
  have e3 : PySem.W.kitCls K t (.ref C) = some b := by
    show (if ((PySem.W.clsIn K C).isSome && PySem.W.typeIn K (.ref C) == some (.type "type")) = true then PySem.W.subIn K t (.ref C) else none) = some b
    rw [if_pos e2]
    exact h
  unfold PySem.W.kitOne
  rw [e3]
  split
  · rename_i e
    rcases hn with rfl | hn
    · rfl
    · rw [hn] at e; cases e
  · rfl
theorem kit_ve {K : PySem.W.Frag} {D : Addr} (h : PySem.W.subIn K (.ref D) (.type "ValueError") = some true) : PySem.W.kitOne K (.ref D) (.type "ValueError") = some true := by
  unfold PySem.W.kitOne
  have e : PySem.W.kitCls K (.ref D) (.type "ValueError") = some true := by
    show (if PySem.W.kitMeta "ValueError" = true then PySem.W.subIn K (.ref D) (.type "ValueError") else none) = some true
    rw [if_pos (by decide +kernel)]
    exact h
  rw [e]
  split <;> rfl
theorem er_mk {K : PySem.W.Frag} {mg : Str → Option Value} {S V P N : Addr} (gS : mg "SomeError" = some (.ref S)) (gV : mg "NoValue" = some (.ref V)) (gP : mg "NotPlain" = some (.ref P)) (gN : mg "NoNote" = some (.ref N))
    (s1 : PySem.W.specialIn K (.builtin "object.__class__") "__get__" = some (some (.builtin "getset_descriptor.__get__"))) (s2 : PySem.W.takesIn K (.builtin "object.__class__") = some true)
    (bS : PySem.W.subIn K (.ref S) (.type "BaseException") = some true) (dS : PySem.W.hasDictIn K S = true) (tS : PySem.W.typeIn K (.ref S) = some (.type "type")) (fV : EcF K V) (fP : EcF K P) (fN : EcF K N)
    (vS : PySem.W.subIn K (.ref V) (.ref S) = some true) (pS : PySem.W.subIn K (.ref P) (.ref S) = some true) (nS : PySem.W.subIn K (.ref N) (.ref S) = some true)
    (vp : PySem.W.subIn K (.ref V) (.ref P) = some false) (vn : PySem.W.subIn K (.ref V) (.ref N) = some false) (pv' : PySem.W.subIn K (.ref P) (.ref V) = some false) (pn : PySem.W.subIn K (.ref P) (.ref N) = some false)
    (nv : PySem.W.subIn K (.ref N) (.ref V) = some false) (np : PySem.W.subIn K (.ref N) (.ref P) = some false)
    (q1 : (Value.ref V == Value.ref P) = false) (q2 : (Value.ref V == Value.ref N) = false) (q3 : (Value.ref P == Value.ref V) = false) (q4 : (Value.ref P == Value.ref N) = false) (q5 : (Value.ref N == Value.ref V) = false) (q6 : (Value.ref N == Value.ref P) = false) : Er K mg S V P N where
  g_SomeError := gS
  g_NoValue := gV
  g_NotPlain := gP
  g_NoNote := gN
  x_NoValue := fV.x
  k_NoValue := fV.k
  b_NoValue := fV.b
  t_NoValue := fV.t
  c_NoValue := fV.c s1 s2
  x_NotPlain := fP.x
  k_NotPlain := fP.k
  b_NotPlain := fP.b
  t_NotPlain := fP.t
  c_NotPlain := fP.c s1 s2
  x_NoNote := fN.x
  k_NoNote := fN.k
  b_NoNote := fN.b
  t_NoNote := fN.t
  c_NoNote := fN.c s1 s2
  m_V := PySem.W.exm_ref bS dS tS vS
  m_P := PySem.W.exm_ref bS dS tS pS
  m_N := PySem.W.exm_ref bS dS tS nS
  i_VV := kit_ref fV.d fV.t fV.me (.inl rfl)
  i_VP := kit_ref fP.d fP.t vp (.inr q1)
  i_VN := kit_ref fN.d fN.t vn (.inr q2)
  i_V := kit_ve fV.ve
  i_PV := kit_ref fV.d fV.t pv' (.inr q3)
  i_PP := kit_ref fP.d fP.t fP.me (.inl rfl)
  i_PN := kit_ref fN.d fN.t pn (.inr q4)
  i_P := kit_ve fP.ve
  i_NV := kit_ref fV.d fV.t nv (.inr q5)
  i_NP := kit_ref fP.d fP.t np (.inr q6)
  i_NN := kit_ref fN.d fN.t fN.me (.inl rfl)
  i_N := kit_ve fN.ve
end XS

namespace XS
open PySem PySem.Spec PyProof.Rows L2
/-! ### statements -/
inductive Stm where
  | above (s : Sm)
  | nought (s : Sm)
  | goes (m : Int) (s : Sm)
  | neg (a : Stm)
  | con (o : Bool) (l : List Stm)
  | bnd (o : Bool) (x : Str) (a : Stm)
def conW (o : Bool) : Str := if o = true then "and" else "or"
def bndW (o : Bool) : Str := if o = true then "all" else "some"
mutual
def toD : Stm → PyData
  | .above s => .tuple [.str "above", sumD s]
  | .nought s => .tuple [.str "nought", sumD s]
  | .goes m s => .tuple [.str "goes", .int m, sumD s]
  | .neg a => .tuple [.str "not", toD a]
  | .con o l => .tuple [.str (conW o), .tuple (toDs l)]
  | .bnd o x a => .tuple [.str (bndW o), .str x, toD a]
def toDs : List Stm → List PyData
  | [] => []
  | a :: l => toD a :: toDs l
end
theorem toDs_map : ∀ l : List Stm, toDs l = l.map toD
  | [] => rfl
  | a :: l => by rw [List.map_cons, ← toDs_map l]; rfl
mutual
def dep : Stm → Nat
  | .above _ => 1
  | .nought _ => 1
  | .goes _ _ => 1
  | .neg a => dep a + 1
  | .con _ l => deps l + 1
  | .bnd _ _ a => dep a + 1
def deps : List Stm → Nat
  | [] => 0
  | a :: l => max (dep a) (deps l)
end
theorem dep_pos (a : Stm) : 0 < dep a := by cases a <;> exact Nat.succ_pos _
theorem dep_in : ∀ {l : List Stm} {a : Stm}, a ∈ l → dep a ≤ deps l
  | b :: l, a, h => by
    have e : deps (b :: l) = max (dep b) (deps l) := rfl
    rcases List.mem_cons.mp h with rfl | h
    · omega
    · have := dep_in h; omega
theorem deps_le : ∀ {l : List Stm} {n : Nat}, (∀ a ∈ l, dep a ≤ n) → deps l ≤ n
  | [], _, _ => Nat.zero_le _
  | b :: l, n, h => by
    have e : deps (b :: l) = max (dep b) (deps l) := rfl
    have h1 := h b (List.mem_cons_self ..)
    have h2 := deps_le (l := l) fun a ha => h a (List.mem_cons_of_mem _ ha)
    omega
/-- all sums keep p, lists are short -/
inductive Ev (p : Sm → Prop) : Stm → Prop
  | above {s : Sm} : p s → Ev p (.above s)
  | nought {s : Sm} : p s → Ev p (.nought s)
  | goes {m : Int} {s : Sm} : p s → 0 < m → Ev p (.goes m s)
  | neg {a : Stm} : Ev p a → Ev p (.neg a)
  | con {o : Bool} {l : List Stm} : (∀ a ∈ l, Ev p a) → l.length ≤ 64 → Ev p (.con o l)
  | bnd {o : Bool} {x : Str} {a : Stm} : Ev p a → Ev p (.bnd o x a)
theorem Ev.mono {p q : Sm → Prop} (h : ∀ s, p s → q s) : ∀ {a : Stm}, Ev p a → Ev q a := by
  intro a e
  induction e with
  | above x => exact .above (h _ x)
  | nought x => exact .nought (h _ x)
  | goes x y => exact .goes (h _ x) y
  | neg _ ih => exact .neg ih
  | con _ hl ih => exact .con ih hl
  | bnd _ ih => exact .bnd ih
/-- what stands right in a statement -/
def parts : Stm → List Stm
  | .above _ => []
  | .nought _ => []
  | .goes _ _ => []
  | .neg a => [a]
  | .con _ l => l
  | .bnd _ _ a => [a]
theorem dep_parts {a b : Stm} (h : b ∈ parts a) : dep b < dep a := by
  cases a with
  | above | nought | goes => cases h
  | neg c | bnd o x c =>
    have e : b = c := by simpa [parts] using h
    subst e
    exact Nat.lt_succ_self _
  | con o l => exact Nat.lt_succ_of_le (dep_in h)
theorem Ev.parts {p : Sm → Prop} {a b : Stm} (e : Ev p a) (h : b ∈ parts a) : Ev p b := by
  cases e with
  | above | nought | goes => cases h
  | @neg c hc =>
    have e : b = c := by simpa [XS.parts] using h
    subst e
    exact hc
  | @bnd o x c hc =>
    have e : b = c := by simpa [XS.parts] using h
    subst e
    exact hc
  | con c _ => exact c _ h
theorem Ev.parts_len {p : Sm → Prop} {a : Stm} (e : Ev p a) : (XS.parts a).length ≤ 64 := by
  cases e with
  | above | nought | goes => exact Nat.zero_le _
  | neg c | bnd c => exact (by decide : (1 : Nat) ≤ 64)
  | con _ h => exact h
def isB : Stm → Bool
  | .bnd _ _ _ => true
  | _ => false
mutual
def plainB : Stm → Bool
  | .above _ => true
  | .nought _ => true
  | .goes _ _ => true
  | .neg a => plainB a
  | .con _ l => plainBs l
  | .bnd _ _ _ => false
def plainBs : List Stm → Bool
  | [] => true
  | a :: l => plainB a && plainBs l
end
theorem plainBs_all : ∀ l : List Stm, plainBs l = l.all plainB
  | [] => rfl
  | a :: l => by rw [List.all_cons, ← plainBs_all l]; rfl
theorem plainB_eq (a : Stm) : plainB a = (!isB a && (parts a).all plainB) := by
  cases a with
  | above | nought | goes => rfl
  | neg c => simp [plainB, isB, parts]
  | bnd o x c => rfl
  | con o l => simp [plainB, isB, parts, plainBs_all]
theorem plain_part {a b : Stm} (h : plainB a = true) (hb : b ∈ parts a) : plainB b = true := by
  rw [plainB_eq] at h
  simp only [Bool.and_eq_true] at h
  exact List.all_eq_true.mp h.2 b hb
/-- the heads -/
def headW : Stm → Str
  | .above _ => "above"
  | .nought _ => "nought"
  | .goes _ _ => "goes"
  | .neg _ => "not"
  | .con o _ => conW o
  | .bnd o _ _ => bndW o
section
variable {K : PySem.W.Frag} {H : Hp}
theorem Dp.one1 {v : V} {d : PyData} {e : List PyData} (h : Dp K H v (.tuple (d :: e))) : ∃ a u us, v = .ref a ∧ SqT K H a (u :: us) ∧ Dp K H u d ∧ DpAll K H us e := by
  cases h with
  | tup hs ha =>
    cases ha with
    | cons h1 h2 => exact ⟨_, _, _, rfl, hs, h1, h2⟩
/-- a statement's tuple: its head, the rest -/
theorem Dp.stm {v : V} {a : Stm} (h : Dp K H v (toD a)) : ∃ p us, v = .ref p ∧ SqT K H p (.str (headW a) :: us) ∧ ∃ ds, toD a = .tuple (.str (headW a) :: ds) ∧ DpAll K H us ds := by
  have key : ∃ ds, toD a = .tuple (.str (headW a) :: ds) := by cases a <;> exact ⟨_, rfl⟩
  obtain ⟨ds, e⟩ := key
  rw [e] at h
  obtain ⟨p, u, us, rfl, h1, h2, h3⟩ := Dp.one1 h
  cases h2
  exact ⟨p, us, rfl, h1, ds, e, h3⟩
end
theorem im_toD : ∀ (n : Nat) (a : Stm), dep a ≤ n → Im (toD a)
  | 0, a, h => by cases a <;> simp [dep] at h
  | n + 1, a, h => by
    cases a with
    | above s => exact im_tup2 (.str _) (im_sum s)
    | nought s => exact im_tup2 (.str _) (im_sum s)
    | goes m s =>
      refine .tup fun d hd => ?_
      rcases List.mem_cons.mp hd with rfl | hd
      · exact .str _
      rcases List.mem_cons.mp hd with rfl | hd
      · exact .int _
      rcases List.mem_cons.mp hd with rfl | hd
      · exact im_sum s
      · cases hd
    | neg c => exact im_tup2 (.str _) (im_toD n c (Nat.le_of_succ_le_succ h))
    | con o l =>
      refine im_tup2 (.str _) ?_
      rw [toDs_map]
      exact im_map fun c hc => im_toD n c (Nat.le_trans (dep_in hc) (Nat.le_of_succ_le_succ h))
    | bnd o x c =>
      refine .tup fun d hd => ?_
      rcases List.mem_cons.mp hd with rfl | hd
      · exact .str _
      rcases List.mem_cons.mp hd with rfl | hd
      · exact .str _
      rcases List.mem_cons.mp hd with rfl | hd
      · exact im_toD n c (Nat.le_of_succ_le_succ h)
      · cases hd
theorem im_stm (a : Stm) : Im (toD a) := im_toD _ a (Nat.le_refl _)
/-! ### constants of the module -/
structure Cs (K : PySem.W.Frag) (mg : Str → Option Value) (oS bN : Addr) : Prop where
  c_OVER_SUMS : mg "OVER_SUMS" = some (.ref oS)
  c_BINDING : mg "BINDING" = some (.ref bN)
  s_OVER_SUMS : ∀ H, SqT K H oS [.str "above", .str "nought", .str "goes"]
  s_BINDING : ∀ H, SqT K H bN [.str "some", .str "all"]
def isEnd : Stm → Bool
  | .above _ => true
  | .nought _ => true
  | .goes _ _ => true
  | _ => false
def isNeg : Stm → Bool
  | .neg _ => true
  | _ => false
theorem in_over (a : Stm) : inV (.str (headW a)) [.str "above", .str "nought", .str "goes"] = isEnd a := by
  cases a with
  | above _ => show inV (.str "above") [.str "above", .str "nought", .str "goes"] = true; decide +kernel
  | nought _ => show inV (.str "nought") [.str "above", .str "nought", .str "goes"] = true; decide +kernel
  | goes _ _ => show inV (.str "goes") [.str "above", .str "nought", .str "goes"] = true; decide +kernel
  | neg _ => show inV (.str "not") [.str "above", .str "nought", .str "goes"] = false; decide +kernel
  | con o l =>
    cases o
    · show inV (.str "or") [.str "above", .str "nought", .str "goes"] = false; decide +kernel
    · show inV (.str "and") [.str "above", .str "nought", .str "goes"] = false; decide +kernel
  | bnd o x c =>
    cases o
    · show inV (.str "some") [.str "above", .str "nought", .str "goes"] = false; decide +kernel
    · show inV (.str "all") [.str "above", .str "nought", .str "goes"] = false; decide +kernel
theorem in_bind (a : Stm) : inV (.str (headW a)) [.str "some", .str "all"] = isB a := by
  cases a with
  | above _ => show inV (.str "above") [.str "some", .str "all"] = false; decide +kernel
  | nought _ => show inV (.str "nought") [.str "some", .str "all"] = false; decide +kernel
  | goes _ _ => show inV (.str "goes") [.str "some", .str "all"] = false; decide +kernel
  | neg _ => show inV (.str "not") [.str "some", .str "all"] = false; decide +kernel
  | con o l =>
    cases o
    · show inV (.str "or") [.str "some", .str "all"] = false; decide +kernel
    · show inV (.str "and") [.str "some", .str "all"] = false; decide +kernel
  | bnd o x c =>
    cases o
    · show inV (.str "some") [.str "some", .str "all"] = true; decide +kernel
    · show inV (.str "all") [.str "some", .str "all"] = true; decide +kernel
def isAb : Stm → Bool
  | .above _ => true
  | _ => false
theorem isAb_eq (a : Stm) : decide (headW a = "above") = isAb a := by
  cases a with
  | above _ => show decide (("above" : Str) = "above") = true; decide +kernel
  | nought _ => show decide (("nought" : Str) = "above") = false; decide +kernel
  | goes _ _ => show decide (("goes" : Str) = "above") = false; decide +kernel
  | neg _ => show decide (("not" : Str) = "above") = false; decide +kernel
  | con o l =>
    cases o
    · show decide (("or" : Str) = "above") = false; decide +kernel
    · show decide (("and" : Str) = "above") = false; decide +kernel
  | bnd o x c =>
    cases o
    · show decide (("some" : Str) = "above") = false; decide +kernel
    · show decide (("all" : Str) = "above") = false; decide +kernel
def isNo : Stm → Bool
  | .nought _ => true
  | _ => false
theorem isNo_eq (a : Stm) : decide (headW a = "nought") = isNo a := by
  cases a with
  | above _ => show decide (("above" : Str) = "nought") = false; decide +kernel
  | nought _ => show decide (("nought" : Str) = "nought") = true; decide +kernel
  | goes _ _ => show decide (("goes" : Str) = "nought") = false; decide +kernel
  | neg _ => show decide (("not" : Str) = "nought") = false; decide +kernel
  | con o l =>
    cases o
    · show decide (("or" : Str) = "nought") = false; decide +kernel
    · show decide (("and" : Str) = "nought") = false; decide +kernel
  | bnd o x c =>
    cases o
    · show decide (("some" : Str) = "nought") = false; decide +kernel
    · show decide (("all" : Str) = "nought") = false; decide +kernel
def isGo : Stm → Bool
  | .goes _ _ => true
  | _ => false
theorem isGo_eq (a : Stm) : decide (headW a = "goes") = isGo a := by
  cases a with
  | above _ => show decide (("above" : Str) = "goes") = false; decide +kernel
  | nought _ => show decide (("nought" : Str) = "goes") = false; decide +kernel
  | goes _ _ => show decide (("goes" : Str) = "goes") = true; decide +kernel
  | neg _ => show decide (("not" : Str) = "goes") = false; decide +kernel
  | con o l =>
    cases o
    · show decide (("or" : Str) = "goes") = false; decide +kernel
    · show decide (("and" : Str) = "goes") = false; decide +kernel
  | bnd o x c =>
    cases o
    · show decide (("some" : Str) = "goes") = false; decide +kernel
    · show decide (("all" : Str) = "goes") = false; decide +kernel
def isOr : Stm → Bool
  | .con false _ => true
  | _ => false
theorem isOr_eq (a : Stm) : decide (headW a = "or") = isOr a := by
  cases a with
  | above _ => show decide (("above" : Str) = "or") = false; decide +kernel
  | nought _ => show decide (("nought" : Str) = "or") = false; decide +kernel
  | goes _ _ => show decide (("goes" : Str) = "or") = false; decide +kernel
  | neg _ => show decide (("not" : Str) = "or") = false; decide +kernel
  | con o l =>
    cases o
    · show decide (("or" : Str) = "or") = true; decide +kernel
    · show decide (("and" : Str) = "or") = false; decide +kernel
  | bnd o x c =>
    cases o
    · show decide (("some" : Str) = "or") = false; decide +kernel
    · show decide (("all" : Str) = "or") = false; decide +kernel
def isAnd : Stm → Bool
  | .con true _ => true
  | _ => false
theorem isAnd_eq (a : Stm) : decide (headW a = "and") = isAnd a := by
  cases a with
  | above _ => show decide (("above" : Str) = "and") = false; decide +kernel
  | nought _ => show decide (("nought" : Str) = "and") = false; decide +kernel
  | goes _ _ => show decide (("goes" : Str) = "and") = false; decide +kernel
  | neg _ => show decide (("not" : Str) = "and") = false; decide +kernel
  | con o l =>
    cases o
    · show decide (("or" : Str) = "and") = false; decide +kernel
    · show decide (("and" : Str) = "and") = true; decide +kernel
  | bnd o x c =>
    cases o
    · show decide (("some" : Str) = "and") = false; decide +kernel
    · show decide (("all" : Str) = "and") = false; decide +kernel
def isSome : Stm → Bool
  | .bnd false _ _ => true
  | _ => false
theorem isSome_eq (a : Stm) : decide (headW a = "some") = isSome a := by
  cases a with
  | above _ => show decide (("above" : Str) = "some") = false; decide +kernel
  | nought _ => show decide (("nought" : Str) = "some") = false; decide +kernel
  | goes _ _ => show decide (("goes" : Str) = "some") = false; decide +kernel
  | neg _ => show decide (("not" : Str) = "some") = false; decide +kernel
  | con o l =>
    cases o
    · show decide (("or" : Str) = "some") = false; decide +kernel
    · show decide (("and" : Str) = "some") = false; decide +kernel
  | bnd o x c =>
    cases o
    · show decide (("some" : Str) = "some") = true; decide +kernel
    · show decide (("all" : Str) = "some") = false; decide +kernel
def isAll : Stm → Bool
  | .bnd true _ _ => true
  | _ => false
theorem isAll_eq (a : Stm) : decide (headW a = "all") = isAll a := by
  cases a with
  | above _ => show decide (("above" : Str) = "all") = false; decide +kernel
  | nought _ => show decide (("nought" : Str) = "all") = false; decide +kernel
  | goes _ _ => show decide (("goes" : Str) = "all") = false; decide +kernel
  | neg _ => show decide (("not" : Str) = "all") = false; decide +kernel
  | con o l =>
    cases o
    · show decide (("or" : Str) = "all") = false; decide +kernel
    · show decide (("and" : Str) = "all") = false; decide +kernel
  | bnd o x c =>
    cases o
    · show decide (("some" : Str) = "all") = false; decide +kernel
    · show decide (("all" : Str) = "all") = true; decide +kernel
theorem is_not (a : Stm) : decide (headW a = "not") = isNeg a := by
  cases a with
  | above _ => show decide (("above" : Str) = "not") = false; decide +kernel
  | nought _ => show decide (("nought" : Str) = "not") = false; decide +kernel
  | goes _ _ => show decide (("goes" : Str) = "not") = false; decide +kernel
  | neg _ => show decide (("not" : Str) = "not") = true; decide +kernel
  | con o l =>
    cases o
    · show decide (("or" : Str) = "not") = false; decide +kernel
    · show decide (("and" : Str) = "not") = false; decide +kernel
  | bnd o x c =>
    cases o
    · show decide (("some" : Str) = "not") = false; decide +kernel
    · show decide (("all" : Str) = "not") = false; decide +kernel
section
variable {K : PySem.W.Frag} {H : Hp} {Q : VK} {p : Addr} {xs : List V} {x : Str} {b : Bool}
theorem x_inT (h : SqT K H p xs) (e : inV (.str x) xs = b) (f : xs.all flatV = true) (q : Q (.bl b) H) : rIn K false (.str x) (.ref p) H Q := ⟨p, xs, rfl, .inr h, rfl, f, by subst e; exact q⟩
theorem x_ninT (h : SqT K H p xs) (e : inV (.str x) xs = b) (f : xs.all flatV = true) (q : Q (.bl (!b)) H) : rIn K true (.str x) (.ref p) H Q := ⟨p, xs, rfl, .inr h, rfl, f, by subst e; exact q⟩
theorem x_inL (h : SqL K H p xs) (e : inV (.str x) xs = b) (f : xs.all flatV = true) (q : Q (.bl b) H) : rIn K false (.str x) (.ref p) H Q := ⟨p, xs, rfl, .inl h, rfl, f, by subst e; exact q⟩
theorem x_ninL (h : SqL K H p xs) (e : inV (.str x) xs = b) (f : xs.all flatV = true) (q : Q (.bl (!b)) H) : rIn K true (.str x) (.ref p) H Q := ⟨p, xs, rfl, .inl h, rfl, f, by subst e; exact q⟩
end
/-! ### promises -/
def sp_parts (K : PySem.W.Frag) : Sp := fun vs H Q _ => ∃ (v : V) (a : Stm), vs = [v] ∧ Dp K H v (toD a) ∧ ∀ t H', Same H H' → Dp K H' (.ref t) (.tuple ((parts a).map toD)) → Q (.ref t) H'
/-- x stands free in a -/
inductive Fr (x : Str) : Stm → Prop
  | above {s : Sm} : x ∈ s.2.map (·.1) → Fr x (.above s)
  | nought {s : Sm} : x ∈ s.2.map (·.1) → Fr x (.nought s)
  | goes {m : Int} {s : Sm} : x ∈ s.2.map (·.1) → Fr x (.goes m s)
  | neg {a : Stm} : Fr x a → Fr x (.neg a)
  | con {o : Bool} {l : List Stm} {a : Stm} : a ∈ l → Fr x a → Fr x (.con o l)
  | bnd {o : Bool} {y : Str} {a : Stm} : x ≠ y → Fr x a → Fr x (.bnd o y a)
/-- the sum of an end -/
def sumOf : Stm → Sm
  | .above s => s
  | .nought s => s
  | .goes _ s => s
  | _ => (0, [])
/-- the name that is bound at the head -/
def bndOf : Stm → List Str
  | .bnd _ x _ => [x]
  | _ => []
theorem fr_iff (x : Str) (a : Stm) : Fr x a ↔ (isEnd a = true ∧ x ∈ (sumOf a).2.map (·.1)) ∨ (x ∉ bndOf a ∧ ∃ b ∈ parts a, Fr x b) := by
  constructor
  · intro h
    cases h with
    | above h => exact .inl ⟨rfl, h⟩
    | nought h => exact .inl ⟨rfl, h⟩
    | goes h => exact .inl ⟨rfl, h⟩
    | neg h => exact .inr ⟨by simp [bndOf], _, by simp [parts], h⟩
    | con hm h => exact .inr ⟨by simp [bndOf], _, hm, h⟩
    | bnd hn h => exact .inr ⟨by simpa [bndOf] using hn, _, by simp [parts], h⟩
  · rintro (⟨e, h⟩ | ⟨hn, b, hb, h⟩)
    · cases a with
      | above s => exact .above h
      | nought s => exact .nought h
      | goes m s => exact .goes h
      | neg c | con o l | bnd o y c => cases e
    · cases a with
      | above | nought | goes => cases hb
      | neg c =>
        have e : b = c := by simpa [parts] using hb
        subst e
        exact .neg h
      | con o l => exact .con hb h
      | bnd o y c =>
        have e : b = c := by simpa [parts] using hb
        subst e
        exact .bnd (by simpa [bndOf] using hn) h
/-- a dict of names, each with True -/
def kOf (ys : List Str) : List (Key × V) := ys.map fun y => (Sum.inr y, V.bl true)
theorem kOf_val (ys : List Str) (x : Str) : valV (kOf ys) (Sum.inr x : Key) = if x ∈ ys then some (.bl true) else none := by
  unfold valV kOf
  rw [List.find?_map]
  have : ((fun kv : Key × V => decide (kv.1 = Sum.inr x)) ∘ fun y : Str => ((Sum.inr y : Key), V.bl true)) = fun y : Str => decide (y = x) := by
    funext y
    exact inr_dec _ _
  rw [this]
  by_cases h : x ∈ ys
  · rw [if_pos h]
    cases e : ys.find? (fun y => decide (y = x)) with
    | none => exact absurd (List.find?_eq_none.mp e x h) (by simp)
    | some y => rfl
  · rw [if_neg h]
    have e : ys.find? (fun y => decide (y = x)) = none := List.find?_eq_none.mpr fun y hy => by
      simp only [decide_eq_true_eq]
      exact fun c => h (by rw [← c]; exact hy)
    rw [e]
    rfl
theorem kOf_put (ys : List Str) (x : Str) : putK (kOf ys) (Sum.inr x : Key) (V.bl true) = kOf (if x ∈ ys then ys else ys ++ [x]) := by
  unfold putK
  have ea : ((kOf ys).any fun kv => decide (kv.1 = (Sum.inr x : Key))) = decide (x ∈ ys) := by
    rw [valV_any, kOf_val]
    split <;> simp_all
  rw [ea]
  by_cases h : x ∈ ys
  · rw [if_pos (by simpa using h), if_pos h]
    unfold kOf
    rw [List.map_map]
    refine List.map_congr_left fun y _ => ?_
    show (if (Sum.inr y : Key) = Sum.inr x then ((Sum.inr y : Key), V.bl true) else ((Sum.inr y : Key), V.bl true)) = _
    split <;> rfl
  · rw [if_neg (by simpa using h), if_neg h]
    unfold kOf
    rw [List.map_append]
    rfl
theorem nd_len : ∀ {xs ys : List Str}, xs.Nodup → (∀ x ∈ xs, x ∈ ys) → xs.length ≤ ys.length
  | [], _, _, _ => Nat.zero_le _
  | x :: xs, ys, nd, h => by
    have nd' := List.nodup_cons.mp nd
    have hx := h x (List.mem_cons_self ..)
    have h2 := nd_len (xs := xs) (ys := ys.erase x) nd'.2 fun y hy => (List.mem_erase_of_ne (fun e => nd'.1 (by rw [← e]; exact hy))).mpr (h y (List.mem_cons_of_mem _ hy))
    rw [List.length_erase_of_mem hx] at h2
    have := List.length_pos_of_mem hx
    rw [List.length_cons]
    omega
/-- all but d stays -/
def But (d : Addr) (H H' : Hp) : Prop := ∀ c o, c ≠ d → H c = some o → H' c = some o
theorem But.refl (d : Addr) (H : Hp) : But d H H := fun _ _ _ h => h
theorem But.trans {d : Addr} {H H1 H2 : Hp} (a : But d H H1) (b : But d H1 H2) : But d H H2 := fun c o n h => b c o n (a c o n h)
theorem Same.but {d : Addr} {H H1 : Hp} (a : Same H H1) : But d H H1 := fun c o _ h => a c o h
theorem But.upd {d : Addr} {H : Hp} {o : HO} : But d H (upd H d o) := fun c o' n h => by rw [upd_ne n]; exact h
theorem But.keeps {d : Addr} {H H1 : Hp} {ks : List (Key × V)} (a : But d H H1) (h : H d = some (.dK ks)) : Keeps H H1 := fun c u k e => by
  refine a c u (fun q => ?_) e
  subst q
  rw [h] at e
  cases e
  rcases k with ⟨_, k⟩ | ⟨_, _, k⟩ <;> cases k
theorem but_same {d : Addr} {H H1 H2 : Hp} (e : Same H H1) (b : But d H1 H2) (h : H d = none) : Same H H2 := fun c o q => b c o (fun z => by subst z; rw [h] at q; cases q) (e c o q)
/-- names found: those of the dict, and those that stand free -/
def sp_find_free (n : Nat) (K : PySem.W.Frag) (nm : List Str) : Sp := fun vs H Q _ => ∃ (v : V) (b d : Addr) (a : Stm) (bs ys : List Str), vs = [v, .ref b, .ref d] ∧ Dp K H v (toD a) ∧ SqT K H b (bs.map V.str) ∧ bs.length + dep a ≤ 1000 ∧ H d = some (.dK (kOf ys)) ∧ ys.Nodup ∧ (∀ y ∈ ys, y ∈ nm) ∧
  Ev (fun s => ∀ x ∈ s.2.map (·.1), x ∈ nm) a ∧ dep a ≤ n ∧ ∀ H' zs, But d H H' → H' d = some (.dK (kOf zs)) → zs.Nodup → (∀ y ∈ zs, y ∈ nm) → (∀ x, x ∈ zs ↔ x ∈ ys ∨ (x ∉ bs ∧ Fr x a)) → Q .non H'
theorem end_sum {K : PySem.W.Frag} {H : Hp} {v : V} {a : Stm} (e : isEnd a = true) (h : Dp K H v (toD a)) : ∃ p us u, v = .ref p ∧ SqT K H p us ∧ atI us (-1) = some u ∧ Dp K H u (sumD (sumOf a)) := by
  cases a with
  | neg c | con o l | bnd o y c => cases e
  | above s | nought s =>
    obtain ⟨p, u, us, rfl, h1, h2, h3⟩ := Dp.one1 h
    cases h3 with
    | cons g1 g2 =>
    cases g2
    exact ⟨p, _, _, rfl, h1, rfl, g1⟩
  | goes m s =>
    obtain ⟨p, u, us, rfl, h1, h2, h3⟩ := Dp.one1 h
    cases h3 with
    | cons g1 g2 =>
    cases g2 with
    | cons g3 g4 =>
    cases g4
    exact ⟨p, _, _, rfl, h1, rfl, g3⟩
def sp_unknowns (K : PySem.W.Frag) (nm : List Str) : Sp := fun vs H Q _ => ∃ (v : V) (a : Stm), vs = [v] ∧ Dp K H v (toD a) ∧ Ev (fun s => ∀ x ∈ s.2.map (·.1), x ∈ nm) a ∧ dep a ≤ 60 ∧
  ∀ l H' zs, H l = none → Same H H' → Rising zs → (∀ x, x ∈ zs ↔ Fr x a) → H' l = some (.lst (zs.map V.str)) → Q (.ref l) H'
def sp_is_plain (n : Nat) (K : PySem.W.Frag) : Sp := fun vs H Q _ => ∃ (v : V) (a : Stm), vs = [v] ∧ Dp K H v (toD a) ∧ dep a ≤ n ∧ ∀ H', Same H H' → Q (.bl (plainB a)) H'
theorem inStrs (x : Str) (ys : List Str) (zs : List V) (e : zs = ys.map V.str) : inV (.str x) zs = decide (x ∈ ys) := by rw [e, inV_str]
/-! ### truth -/
mutual
def tru (f : Str → Int) : Stm → Bool
  | .above s => decide (0 < valS f s)
  | .nought s => decide (valS f s = 0)
  | .goes m s => decide (valS f s % m = 0)
  | .neg a => !tru f a
  | .con o l => if o = true then truAll f l else truAny f l
  | .bnd _ _ _ => false
def truAll (f : Str → Int) : List Stm → Bool
  | [] => true
  | a :: l => tru f a && truAll f l
def truAny (f : Str → Int) : List Stm → Bool
  | [] => false
  | a :: l => tru f a || truAny f l
end
theorem truAll_eq (f : Str → Int) : ∀ l, truAll f l = l.all (tru f)
  | [] => rfl
  | a :: l => by rw [List.all_cons, ← truAll_eq f l]; rfl
theorem truAny_eq (f : Str → Int) : ∀ l, truAny f l = l.any (tru f)
  | [] => rfl
  | a :: l => by rw [List.any_cons, ← truAny_eq f l]; rfl
/-- an end's truth by its sum's value -/
def truN (k : Int) : Stm → Bool
  | .above _ => decide (0 < k)
  | .nought _ => decide (k = 0)
  | .goes m _ => decide (k % m = 0)
  | _ => false
def sp_goes_into : Sp := fun vs H Q _ => ∃ m k : Int, vs = [.int m, .int k] ∧ 0 < m ∧ Q (.bl (decide (k % m = 0))) H
def sp_truN (K : PySem.W.Frag) : Sp := fun vs H Q _ => ∃ (v : V) (a : Stm) (k : Int), vs = [v, .int k] ∧ Dp K H v (toD a) ∧ isEnd a = true ∧ (∀ m s, a = .goes m s → 0 < m) ∧ Q (.bl (truN k a)) H
/-- sums that may be reckoned under m -/
def OkS (m : List Pr) (s : Sm) : Prop := SmlS s ∧ ∀ p ∈ s.2, p.1 ∈ m.map (·.1) ∧ p.1.length ≤ 1000
def sp_truth (n : Nat) (K : PySem.W.Frag) : Sp := fun vs H Q _ => ∃ (v : V) (d : Addr) (a : Stm) (m : List Pr), vs = [v, .ref d] ∧ Dp K H v (toD a) ∧ H d = some (.dK (dOf m)) ∧ (∀ q ∈ m, Sml q.2) ∧ Ev (OkS m) a ∧ plainB a = true ∧ dep a ≤ n ∧ Q (.bl (tru (look m) a)) H
def sp_refuse (K : PySem.W.Frag) (NP : Addr) : Sp := fun vs H Q E => ∃ (v : V) (a : Stm), vs = [v] ∧ Dp K H v (toD a) ∧ dep a ≤ 60 ∧ (plainB a = true → ∀ H', Same H H' → Q .non H') ∧ (plainB a = false → ∀ H', Same H H' → E (.ref NP) none H')
/-- refuse_without_values of names zs -/
def sp_novals (K : PySem.W.Frag) (NV : Addr) : Sp := fun vs H Q E => ∃ (l d : Addr) (zs : List Str) (m : List Pr), vs = [.ref l, .ref d] ∧ SqL K H l (zs.map V.str) ∧ H d = some (.dK (dOf m)) ∧ (∀ x ∈ zs, x.length ≤ 1000) ∧ ((∀ x ∈ zs, x ∈ m.map (·.1)) → ∀ H', Same H H' → Q .non H') ∧ ((∃ x ∈ zs, x ∉ m.map (·.1)) → ∀ H', Same H H' → E (.ref NV) none H')
/-- names of the values are among nm -/
def sp_is_true (K : PySem.W.Frag) (nm : List Str) (NV NP : Addr) : Sp := fun vs H Q E => ∃ (v : V) (d : Addr) (a : Stm) (m : List Pr), vs = [v, .ref d] ∧ Dp K H v (toD a) ∧ H d = some (.dK (dOf m)) ∧ (∀ q ∈ m, Sml q.2) ∧ Ev (fun s => SmlS s ∧ ∀ x ∈ s.2.map (·.1), x ∈ nm) a ∧ dep a ≤ 60 ∧
  (plainB a = false → ∀ H', Same H H' → E (.ref NP) none H') ∧ (plainB a = true → (∃ x, XS.Fr x a ∧ x ∉ m.map (·.1)) → ∀ H', Same H H' → E (.ref NV) none H') ∧ (plainB a = true → (∀ x, XS.Fr x a → x ∈ m.map (·.1)) → ∀ H', Same H H' → Q (.bl (tru (look m) a)) H')
theorem ev_free {p : Sm → Prop} {M : List Str} {a : Stm} (e : Ev p a) : plainB a = true → (∀ x, XS.Fr x a → x ∈ M) → Ev (fun s => p s ∧ ∀ x ∈ s.2.map (·.1), x ∈ M) a := by
  induction e with
  | above h => exact fun _ f => .above ⟨h, fun x hx => f x (.above hx)⟩
  | nought h => exact fun _ f => .nought ⟨h, fun x hx => f x (.nought hx)⟩
  | goes h h2 => exact fun _ f => .goes ⟨h, fun x hx => f x (.goes hx)⟩ h2
  | neg _ ih => exact fun pl f => .neg (ih (plain_part pl (by simp [XS.parts])) fun x hx => f x (.neg hx))
  | con _ hl ih => exact fun pl f => .con (fun c hc => ih c hc (plain_part pl hc) fun x hx => f x (.con hc hx)) hl
  | bnd _ _ => exact fun pl _ => by cases pl
theorem fr_in {M : List Str} {a : Stm} (e : Ev (fun s => ∀ x ∈ s.2.map (·.1), x ∈ M) a) {x : Str} (f : XS.Fr x a) : x ∈ M := by
  induction e with
  | above h => cases f with | above f => exact h x f
  | nought h => cases f with | nought f => exact h x f
  | goes h _ => cases f with | goes f => exact h x f
  | neg _ ih => cases f with | neg f => exact ih f
  | con _ _ ih => cases f with | con hc f => exact ih _ hc f
  | bnd _ ih => cases f with | bnd _ f => exact ih f
end XS

namespace XS
open PySem PySem.Spec PyProof.Rows L2
/-- once a tuple is the tuple -/
theorem once_tup (l : Addr) (its : Array Value) (m : Nat) (od : Option Addr) (slt : Array (Option Value)) (tk : Tok) : Meets (Builtin.«tuple.__mul__» ⟨[.ref l, .int 1 tk], []⟩) (fun _ R s => s.heap.get? l = some { cls := .type "tuple", dict := od, data := .seq its m, slots := slt } ∧ R (.ok (.ret (.ref l))) s) :=
  .of_wp fun prog w A R s0 hh => by
    obtain ⟨hp, gl, dd, tt, oo⟩ := s0
    obtain ⟨e0, hR⟩ := hh
    have idx := AutoSeq1.idx_int
    have yes : (its.isEmpty || (1 : Int) == 1) = true := by simp
    (wp_walk using wpAny_loadPart' e0); exact ⟨_, rfl, hR⟩
/-- t * k, k at least 1 -/
def rRepU (K : PySem.W.Frag) : R2 := fun x y H Q => ∃ l k xs, x = .ref l ∧ y = .int k ∧ SqT K H l xs ∧ xs ≠ [] ∧ 1 ≤ k ∧ k ≤ 1000 ∧ xs.length ≤ 1000 ∧ (k = 1 → Q (.ref l) H) ∧ (2 ≤ k → ∀ p, H p = none → Q (.ref p) (upd H p (.tup (List.replicate k.toNat xs).flatten)))
theorem op_repU {X : Cx} (K : PySem.W.Frag) (hK : X.K = K := by rfl) : OpR X (binaryOp .Mult) (rRepU K) := by
  subst hK
  intro pins s σ H x y v u Q I rx ry h
  obtain ⟨l, k, xs, ex, ey, hT, hne, h1, h2, hz, qa, qb⟩ := h
  by_cases hk : k = 1
  · subst hk ex ey
    cases rx
    obtain ⟨tk, rfl⟩ := ry
    obtain ⟨its, r, ⟨⟨co, od, da, slt⟩, ho, hc, m, hd⟩, hs⟩ := I.tuple hT
    simp only at hc hd
    subst hc hd
    refine wpAny_binaryOp_repeat_ref (T := "tuple") (U := "int") (by decide) ⟨_, ho, rfl⟩ (fun z => typeIs_int z 1 tk) noFill_tuple_mul F.fills_int_mul F.slot_int_rmul repeat_tuple F.slot_int_index.lookup ?_
    refine call_meets F.slot_int_rmul (typeIs_int s 1 tk) F.entry_int_rmul (F.args_int_rmul_2 _ _) (int_rmul_tuple 1 tk l its.toArray m od slt) ⟨ho, rfl, ⟨_, ho, rfl⟩, ?_⟩
    exact call_meets F.slot_tuple_mul ⟨_, ho, rfl⟩ F.entry_tuple_mul (F.args_tuple_mul_2 _ _) (once_tup l its.toArray m od slt tk) ⟨ho, .ref l, H, I, rfl, qa rfl⟩
  · exact op_repT pins s σ H x y v u Q I rx ry ⟨l, k, xs, ex, ey, hT, hne, by omega, h2, hz, qb (by omega)⟩
section
variable {K : PySem.W.Frag} {H : Hp} {Q : VK} {l a b : Addr} {k : Int} {xs ys : List V}
theorem x_repU (h : SqT K H l xs) (hne : xs ≠ []) (h1 : 1 ≤ k) (h2 : k ≤ 1000) (hz : xs.length ≤ 1000) (q : ∀ p H', Same H H' → SqT K H' p (List.replicate k.toNat xs).flatten → Q (.ref p) H') : rRepU K (.ref l) (.int k) H Q :=
  ⟨l, k, xs, rfl, rfl, h, hne, h1, h2, hz, fun e => q l H (Same.refl _) (by subst e; simpa using h), fun _ p hp => q p _ (same_upd hp) (SqT.of upd_same)⟩
theorem x_catA (h1 : SqT K H a xs) (h2 : SqT K H b ys) (n1 : xs ≠ []) (n2 : ys ≠ []) (hz : xs.length + ys.length ≤ 100000) (q : ∀ p H', Same H H' → H' p = some (.tup (xs ++ ys)) → Q (.ref p) H') : rCatA K (.ref a) (.ref b) H Q :=
  ⟨a, b, xs, ys, rfl, rfl, h1, h2, sz hz, fun e => absurd e n1, fun _ e => absurd e n2, fun _ _ p hp => q p _ (same_upd hp) upd_same⟩
end
theorem DpAll.rep {K : PySem.W.Frag} {H : Hp} {v : V} {d : PyData} (h : Dp K H v d) : ∀ n : Nat, DpAll K H (List.replicate n v) (List.replicate n d)
  | 0 => .nil
  | n + 1 => .cons h (DpAll.rep h n)
theorem rep_one {α : Type} (x : α) : ∀ n : Nat, (List.replicate n [x]).flatten = List.replicate n x
  | 0 => rfl
  | n + 1 => by rw [List.replicate_succ, List.flatten_cons, rep_one x n]; rfl
end XS

namespace XS
open PySem PySem.Spec PyProof.Rows L2
/-! ### the statements that the law draws -/
def endBy (c : Int) (nm : List Str) (wd most : Int) : Stm :=
  if c % 4 = 3 then .nought (sumBy (c / 12) nm wd) else if c % 4 = 2 then .goes (1 + c / 4 % most) (sumBy (c / 12) nm wd) else .above (sumBy (c / 12) nm wd)
def turnW (way c : Int) (e a : Stm) : Stm :=
  if way = 0 then .con true [a, e] else if way = 1 then .con false [a, e] else if way = 2 then .con false [.neg a, e] else if way = 3 then .neg (.con true [e, a, .con true []])
  else if way = 4 then .con true [.con false [e, a], .neg e] else if way = 5 then .con false [e, .con false [], a] else if way = 6 then .con true [.neg (.neg a), .neg e]
  else if way = 7 then .con true [.con false [a], .con false [.con true [e]]] else .con (decide (c / 9 % 2 = 0)) ([e, e, a] ++ List.replicate (1 + c / 18 % 18).toNat e)
def turnBy (ns : List Int) (first : Int) (nm : List Str) (wd most : Int) (a : Stm) (i : Nat) : Stm :=
  turnW ((cell ns (first + (1 + i)) + 104729 * (1 + i)) % 9) (cell ns (first + (1 + i)) + 104729 * (1 + i)) (endBy ((cell ns (first + (1 + i)) + 104729 * (1 + i)) / 9) nm wd most) a
def namesFor (b : Int) (nm : List Str) : List Str := if b % 13 = 12 then [] else nm
def plainRun (ns : List Int) (first : Int) (nm : List Str) (wd most : Int) : Nat → Stm
  | 0 => endBy (cell ns first) nm wd most
  | n + 1 => turnBy ns first nm wd most (plainRun ns first nm wd most n) n
def plainBy (ns : List Int) (first count : Int) (nm : List Str) (wd most : Int) : Stm :=
  if cell ns first % 26 = 25 then .con true [] else plainRun ns first (namesFor (cell ns first) nm) wd most (count - 1).toNat
def sp_end_by (K : PySem.W.Frag) : Sp := fun vs H Q _ => ∃ (c wd most : Int) (nl : Addr) (names : List Str), vs = [.int c, .ref nl, .int wd, .int most] ∧ SqL K H nl (names.map V.str) ∧ names.Nodup ∧ names.length ≤ 8 ∧ 0 ≤ wd ∧ wd ≤ 1000 ∧ 0 < most ∧
  ∀ t H', Same H H' → Dp K H' (.ref t) (toD (endBy c names wd most)) → Q (.ref t) H'
def sp_plain_by (K : PySem.W.Frag) : Sp := fun vs H Q _ => ∃ (a : Addr) (ns : List Int) (first count wd most : Int) (nl : Addr) (names : List Str), vs = [.ref a, .int first, .int count, .ref nl, .int wd, .int most] ∧ SqL K H a (ns.map V.int) ∧ 0 ≤ first ∧ first ≤ 1000 ∧ 1 ≤ count ∧ count ≤ 12 ∧
  SqL K H nl (names.map V.str) ∧ names.Nodup ∧ names.length ≤ 8 ∧ 0 ≤ wd ∧ wd ≤ 1000 ∧ 0 < most ∧ ∀ t H', Same H H' → Dp K H' (.ref t) (toD (plainBy ns first count names wd most)) → Q (.ref t) H'
theorem endBy_is (c : Int) (nm : List Str) (wd most : Int) : isEnd (endBy c nm wd most) = true ∧ dep (endBy c nm wd most) = 1 ∧ plainB (endBy c nm wd most) = true := by
  unfold endBy
  split
  · exact ⟨rfl, rfl, rfl⟩
  · split <;> exact ⟨rfl, rfl, rfl⟩
theorem endBy_ev {p : Sm → Prop} (c : Int) (nm : List Str) (wd most : Int) (hm : 0 < most) (h : p (sumBy (c / 12) nm wd)) : Ev p (endBy c nm wd most) := by
  unfold endBy
  split
  · exact .nought h
  · split
    · exact .goes h (by have := Int.emod_nonneg (c / 4) (by omega : most ≠ 0); omega)
    · exact .above h
section
variable {K : PySem.W.Frag} {H : Hp}
theorem Dp.mkAbove {t : Addr} {u : V} {s : Sm} (h : SqT K H t [.str "above", u]) (g : Dp K H u (sumD s)) : Dp K H (.ref t) (toD (.above s)) := .tup h (.cons (.str _) (.one g))
theorem Dp.mkNought {t : Addr} {u : V} {s : Sm} (h : SqT K H t [.str "nought", u]) (g : Dp K H u (sumD s)) : Dp K H (.ref t) (toD (.nought s)) := .tup h (.cons (.str _) (.one g))
theorem Dp.mkGoes {t : Addr} {u : V} {m : Int} {s : Sm} (h : SqT K H t [.str "goes", .int m, u]) (g : Dp K H u (sumD s)) : Dp K H (.ref t) (toD (.goes m s)) := .tup h (.cons (.str _) (.cons (.int _) (.one g)))
theorem Dp.mkNeg {t : Addr} {u : V} {a : Stm} (h : SqT K H t [.str "not", u]) (g : Dp K H u (toD a)) : Dp K H (.ref t) (toD (.neg a)) := .tup h (.cons (.str _) (.one g))
theorem Dp.mkCon {t r : Addr} {us : List V} {o : Bool} {l : List Stm} {w : Str} (h : SqT K H t [.str w, .ref r]) (hw : w = conW o) (h2 : SqT K H r us) (g : DpAll K H us (l.map toD)) : Dp K H (.ref t) (toD (.con o l)) := by
  subst hw
  refine .tup h (.cons (.str _) (.one ?_))
  rw [toDs_map]
  exact .tup h2 g
theorem Dp.mkBnd {t : Addr} {u : V} {o : Bool} {x : Str} {a : Stm} {w : Str} (h : SqT K H t [.str w, .str x, u]) (hw : w = bndW o) (g : Dp K H u (toD a)) : Dp K H (.ref t) (toD (.bnd o x a)) := by
  subst hw
  exact .tup h (.cons (.str _) (.cons (.str _) (.one g)))
end
end XS
namespace XS
open PySem PySem.Spec PyProof.Rows L2
def sp_lfree (n : Nat) (K : PySem.W.Frag) (nm : List Str) : Sp := fun vs H Q _ => ∃ (v : V) (b : Addr) (a : Stm) (bs : List Str), vs = [v, .ref b] ∧ Dp K H v (toD a) ∧ H b = some (.lst (bs.map V.str)) ∧ bs.length + dep a ≤ 1000 ∧ Ev (fun s => (∀ x ∈ s.2.map (·.1), x ∈ nm) ∧ (s.2.map (·.1)).Nodup) a ∧ dep a ≤ n ∧
  ∀ l H' (zs : List Str), Same H H' → H l = none → H' l = some (.lst (zs.map V.str)) → zs.Nodup → (∀ x, x ∈ zs ↔ x ∉ bs ∧ XS.Fr x a) → Q (.ref l) H'
theorem fr_end {x : Str} {a : Stm} (e : isEnd a = true) : XS.Fr x a ↔ x ∈ (sumOf a).2.map (·.1) := by
  rw [fr_iff]
  have hp : parts a = [] := by cases a <;> first | rfl | cases e
  rw [hp, e]
  simp
def boundBy (c : Int) (a : Stm) (names : List Str) : Stm :=
  let i := Stm.bnd (decide (c % 2 = 1)) (names.getD (c / 2 % 4).toNat "") a
  if c / 8 % 4 = 0 then i else if c / 8 % 4 = 1 then .neg i else if c / 8 % 4 = 2 then .con true [a, i] else .con false [.con true [], .neg (.con false [i, a])]
def sp_bound_by (K : PySem.W.Frag) : Sp := fun vs H Q _ => ∃ (c : Int) (v : V) (nl : Addr) (a : Stm) (names : List Str), vs = [.int c, v, .ref nl] ∧ Dp K H v (toD a) ∧ SqL K H nl (names.map V.str) ∧ names.length = 4 ∧ ∀ t H', Same H H' → Dp K H' (.ref t) (toD (boundBy c a names)) → Q (.ref t) H'
/-- an end whose sum comes near nought -/
def edgeOne (c : Int) (nm : List Str) (m : List Pr) : Sm := ((sumBy (c / 12) nm 3).1 - valS (look m) (sumBy (c / 12) nm 3) + c % 3 - 1, (sumBy (c / 12) nm 3).2)
def edgeEnd (c : Int) (nm : List Str) (m : List Pr) : Stm := if c / 3 % 3 = 0 then .above (edgeOne c nm m) else if c / 3 % 3 = 1 then .nought (edgeOne c nm m) else .goes (1 + c / 9 % 40) (edgeOne c nm m)
def edgeBy (c : Int) (nm : List Str) (m : List Pr) : Stm := if c / 7 % 2 = 1 then .neg (edgeEnd c nm m) else edgeEnd c nm m
def sp_edge_by (K : PySem.W.Frag) : Sp := fun vs H Q _ => ∃ (c : Int) (nl d : Addr) (names : List Str) (m : List Pr), vs = [.int c, .ref nl, .ref d] ∧ SqL K H nl (names.map V.str) ∧ names.Nodup ∧ names.length ≤ 8 ∧ H d = some (.dK (dOf m)) ∧ (∀ q ∈ m, Sml q.2) ∧ (∀ x ∈ names, x ∈ m.map (·.1)) ∧
  ∀ t H', Same H H' → Dp K H' (.ref t) (toD (edgeBy c names m)) → Q (.ref t) H'
/-- what is_true answers: True or False, or the word of its refusal -/
def sp_answer (K : PySem.W.Frag) (nm : List Str) : Sp := fun vs H Q _ => ∃ (v : V) (d : Addr) (a : Stm) (m : List Pr), vs = [v, .ref d] ∧ Dp K H v (toD a) ∧ H d = some (.dK (dOf m)) ∧ (∀ q ∈ m, Sml q.2) ∧ Ev (fun s => SmlS s ∧ ∀ x ∈ s.2.map (·.1), x ∈ nm) a ∧ dep a ≤ 60 ∧
  (plainB a = false → ∀ H', Same H H' → Q (.str "not plain") H') ∧ (plainB a = true → (∃ x, XS.Fr x a ∧ x ∉ m.map (·.1)) → ∀ H', Same H H' → Q (.str "no value") H') ∧ (plainB a = true → (∀ x, XS.Fr x a → x ∈ m.map (·.1)) → ∀ H', Same H H' → Q (.bl (tru (look m) a)) H')
end XS

namespace XS
open PySem PySem.Spec PyProof.Rows L2
/-! ### what is drawn is right -/
/-- a drawn sum: of the names nm, each once -/
def DrS (nm : List Str) (s : Sm) : Prop := SmlS s ∧ (∀ x ∈ s.2.map (·.1), x ∈ nm) ∧ (s.2.map (·.1)).Nodup
/-- sums p, plain, at most n deep -/
structure Good (p : Sm → Prop) (n : Nat) (a : Stm) : Prop where
  ev : Ev p a
  pl : plainB a = true
  dp : dep a ≤ n
theorem Good.mono {p : Sm → Prop} {n m : Nat} {a : Stm} (g : Good p n a) (h : n ≤ m) : Good p m a := ⟨g.ev, g.pl, Nat.le_trans g.dp h⟩
theorem Good.neg {p : Sm → Prop} {n : Nat} {a : Stm} (g : Good p n a) : Good p (n + 1) (.neg a) := ⟨.neg g.ev, g.pl, Nat.succ_le_succ g.dp⟩
theorem Good.con {p : Sm → Prop} {n : Nat} {o : Bool} {l : List Stm} (g : ∀ a ∈ l, Good p n a) (hl : l.length ≤ 64) : Good p (n + 1) (.con o l) :=
  ⟨.con (fun a ha => (g a ha).ev) hl, by show plainBs l = true; rw [plainBs_all]; exact List.all_eq_true.mpr fun a ha => (g a ha).pl, Nat.succ_le_succ (deps_le fun a ha => (g a ha).dp)⟩
theorem Good.con0 {p : Sm → Prop} {n : Nat} {o : Bool} : Good p (n + 1) (.con o []) := Good.con (fun a ha => by cases ha) (by simp)
theorem Good.con1 {p : Sm → Prop} {n : Nat} {o : Bool} {a : Stm} (g : Good p n a) : Good p (n + 1) (.con o [a]) := Good.con (fun b hb => by rw [List.mem_singleton.mp hb]; exact g) (by simp)
theorem Good.con2 {p : Sm → Prop} {n : Nat} {o : Bool} {a b : Stm} (g : Good p n a) (h : Good p n b) : Good p (n + 1) (.con o [a, b]) := Good.con (fun c hc => by
  rcases List.mem_cons.mp hc with rfl | hc
  · exact g
  · rw [List.mem_singleton.mp hc]; exact h) (by simp)
theorem Good.con3 {p : Sm → Prop} {n : Nat} {o : Bool} {a b c : Stm} (g : Good p n a) (h : Good p n b) (k : Good p n c) : Good p (n + 1) (.con o [a, b, c]) := Good.con (fun d hd => by
  rcases List.mem_cons.mp hd with rfl | hd
  · exact g
  rcases List.mem_cons.mp hd with rfl | hd
  · exact h
  · rw [List.mem_singleton.mp hd]; exact k) (by simp)
theorem endBy_good {p : Sm → Prop} {c wd most : Int} {nm : List Str} (hm : 0 < most) (h : p (sumBy (c / 12) nm wd)) : Good p 1 (endBy c nm wd most) := ⟨endBy_ev c nm wd most hm h, (endBy_is c nm wd most).2.2, Nat.le_of_eq (endBy_is c nm wd most).2.1⟩
theorem turnW_good {p : Sm → Prop} {way c : Int} {e a : Stm} {n : Nat} (ge : Good p (n + 1) e) (ga : Good p (n + 1) a) : Good p (n + 4) (turnW way c e a) := by
  have u {m k : Nat} {b : Stm} (g : Good p m b) (h : m ≤ k) : Good p k b := g.mono h
  have E2 := u ge (by omega : n + 1 ≤ n + 2)
  have A2 := u ga (by omega : n + 1 ≤ n + 2)
  have E3 := u ge (by omega : n + 1 ≤ n + 3)
  have A3 := u ga (by omega : n + 1 ≤ n + 3)
  unfold turnW
  split
  · exact Good.con2 A3 E3
  split
  · exact Good.con2 A3 E3
  split
  · exact Good.con2 A2.neg E3
  split
  · exact (Good.con3 E2 A2 Good.con0).neg
  split
  · exact Good.con2 (Good.con2 E2 A2) E2.neg
  split
  · exact Good.con3 E3 Good.con0 A3
  split
  · exact Good.con2 ga.neg.neg E2.neg
  split
  · exact Good.con2 (Good.con1 A2) (Good.con1 (Good.con1 ge))
  · refine Good.con (n := n + 3) (fun b hb => ?_) ?_
    · rcases List.mem_append.mp hb with hb | hb
      · rcases List.mem_cons.mp hb with rfl | hb
        · exact E3
        rcases List.mem_cons.mp hb with rfl | hb
        · exact E3
        · rw [List.mem_singleton.mp hb]; exact A3
      · rw [List.eq_of_mem_replicate hb]; exact E3
    · have h1 := Int.emod_lt_of_pos (c / 18) (by decide : (0 : Int) < 18)
      rw [List.length_append, List.length_replicate]
      show 3 + _ ≤ 64
      omega
theorem plainRun_good {p : Sm → Prop} {ns : List Int} {first wd most : Int} {nm : List Str} (hm : 0 < most) (h : ∀ c, p (sumBy c nm wd)) : ∀ i : Nat, Good p (1 + 3 * i) (plainRun ns first nm wd most i)
  | 0 => endBy_good hm (h _)
  | i + 1 => by
    have e : 1 + 3 * (i + 1) = 3 * i + 4 := by omega
    rw [e]
    have ih := plainRun_good (ns := ns) (first := first) hm h i
    exact turnW_good (n := 3 * i) ((endBy_good hm (h _)).mono (by omega)) (ih.mono (by omega))
theorem plainBy_good {p : Sm → Prop} {ns : List Int} {first count wd most : Int} {nm : List Str} (hm : 0 < most) (h : ∀ c nm', nm' = nm ∨ nm' = [] → p (sumBy c nm' wd)) (hc : count ≤ 6) : Good p 16 (plainBy ns first count nm wd most) := by
  unfold plainBy
  split
  · exact Good.con0.mono (n := 0 + 1) (by omega)
  · refine (plainRun_good hm (fun c => h c _ ?_) _).mono (by omega)
    unfold namesFor
    split
    · exact .inr rfl
    · exact .inl rfl
theorem edgeBy_good {p : Sm → Prop} {c : Int} {nm : List Str} {m : List Pr} (h : p (edgeOne c nm m)) : Good p 2 (edgeBy c nm m) := by
  have g : Good p 1 (edgeEnd c nm m) := by
    unfold edgeEnd
    split
    · exact ⟨.above h, rfl, Nat.le_refl _⟩
    split
    · exact ⟨.nought h, rfl, Nat.le_refl _⟩
    · exact ⟨.goes h (by have := Int.emod_nonneg (c / 9) (by decide : (40 : Int) ≠ 0); omega), rfl, Nat.le_refl _⟩
  unfold edgeBy
  split
  · exact g.neg
  · exact g.mono (by omega)
/-- some or all round it: not plain -/
theorem boundBy_is {p : Sm → Prop} {c : Int} {a : Stm} {names : List Str} {n : Nat} (e : Ev p a) (hd : dep a ≤ n) : Ev p (boundBy c a names) ∧ plainB (boundBy c a names) = false ∧ dep (boundBy c a names) ≤ n + 4 := by
  have eb : Ev p (Stm.bnd (decide (c % 2 = 1)) (names.getD (c / 2 % 4).toNat "") a) := .bnd e
  have d1 : dep (Stm.bnd (decide (c % 2 = 1)) (names.getD (c / 2 % 4).toNat "") a) = dep a + 1 := rfl
  have pb : plainB (Stm.bnd (decide (c % 2 = 1)) (names.getD (c / 2 % 4).toNat "") a) = false := rfl
  unfold boundBy
  dsimp only
  generalize Stm.bnd (decide (c % 2 = 1)) (names.getD (c / 2 % 4).toNat "") a = i at eb d1 pb
  split
  · exact ⟨eb, pb, by omega⟩
  split
  · exact ⟨.neg eb, pb, by show dep i + 1 ≤ _; omega⟩
  split
  · refine ⟨.con (fun b hb => ?_) (by simp), ?_, ?_⟩
    · rcases List.mem_cons.mp hb with rfl | hb
      · exact e
      · rw [List.mem_singleton.mp hb]; exact eb
    · show (plainB a && (plainB i && true)) = false
      rw [pb]; simp
    · show max (dep a) (max (dep i) 0) + 1 ≤ _
      omega
  · refine ⟨.con (fun b hb => ?_) (by simp), ?_, ?_⟩
    · rcases List.mem_cons.mp hb with rfl | hb
      · exact .con (fun b hb => by cases hb) (by simp)
      · rw [List.mem_singleton.mp hb]
        refine .neg (.con (fun b hb => ?_) (by simp))
        rcases List.mem_cons.mp hb with rfl | hb
        · exact eb
        · rw [List.mem_singleton.mp hb]; exact e
    · show (true && ((plainB i && (plainB a && true)) && true)) = false
      rw [pb]; rfl
    · show max (0 + 1) (max (max (dep i) (max (dep a) 0) + 1 + 1) 0) + 1 ≤ _
      omega
end XS
namespace XS
open PySem PySem.Spec PyProof.Rows L2
theorem But.seqL {K : PySem.W.Frag} {d a : Addr} {H H1 : Hp} {ks : List (Key × V)} {xs : List V} (b : But d H H1) (h : H d = some (.dK ks)) (s : SqL K H a xs) : SqL K H1 a xs := by
  rcases s with (s | ⟨o, s⟩) | s
  · exact .inl (.inl (b _ _ (fun q => by subst q; rw [h] at s; cases s) s))
  · exact .inl (.inr ⟨o, b _ _ (fun q => by subst q; rw [h] at s; cases s) s⟩)
  · exact .inr s
theorem But.lst {d a : Addr} {H H1 : Hp} {ks : List (Key × V)} {xs : List V} (b : But d H H1) (h : H d = some (.dK ks)) (s : H a = some (.lst xs)) : H1 a = some (.lst xs) := b _ _ (fun q => by subst q; rw [h] at s; cases s) s
theorem al_strs {n : Nat} {ys : List Str} (h : ys.length ≤ 1000) : Al (n + 1) (.list (ys.map PyData.str)) := .lst (fun d hd => by
  obtain ⟨y, _, rfl⟩ := List.mem_map.mp hd
  exact .str y) (by rw [List.length_map]; exact h)
theorem putP_b {m : List Pr} {x : Str} {v : Int} {B : Nat} (h : ∀ q ∈ m, q.2.natAbs ≤ B) (hv : v.natAbs ≤ B) : ∀ q ∈ putP m x v, q.2.natAbs ≤ B := by
  unfold putP
  split
  · intro q hq
    obtain ⟨p, hp, rfl⟩ := List.mem_map.mp hq
    split
    · exact hv
    · exact h p hp
  · intro q hq
    rcases List.mem_append.mp hq with hq | hq
    · exact h q hq
    · rw [List.mem_singleton.mp hq]; exact hv
end XS
namespace XS
open PySem PySem.Spec PyProof.Rows L2
theorem cs_tup {K : PySem.W.Frag} {a : Addr} {od : Option Addr} {its : Array Value} {n : Nat} {sl : Array (Option Value)} {xs : List V} (l : K.lookup a = some ⟨.type "tuple", od, .seq its n, sl⟩) (hz : its.size ≤ sizeLine) (r : Vals xs its.toList) : ∀ H, SqT K H a xs := fun _ => .inr ⟨_, its, n, l, rfl, rfl, hz, r⟩
end XS

namespace XG
open PySem PySem.Spec PyProof.Rows L2
/-! ### sets of keys of one kind, with the order that a walk wants -/
section
variable {κ : Type} [DecidableEq κ] {P : Program} {w : World}
/-- the keys of the entries -/
def ks (key : Value → κ) (l : List (Int × Value)) : List κ := l.map fun e => key e.2
structure SetD (knd : KeyKind P w κ) (key : Value → κ) (S : κ → Bool) (es : Array (Int × Value)) (t : SetTable) : Prop where
  el : ElemsOf knd es.toList
  nd : (ks key es.toList).Nodup
  mem : ∀ k, S k = true ↔ k ∈ ks key es.toList
  few : es.size < scanBound
  fit : t.fits es.size = true
  ris : Ris t.place.toList
  led : w.params.followText "set-order" = true ∨ t.led = true
def SetX (knd : KeyKind P w κ) (key : Value → κ) (h : Heap) (a : Addr) (S : κ → Bool) (n : Nat) : Prop :=
  ∃ o es ep t, h.get? a = some o ∧ o.ExactSet ∧ o.data = .set es ep t ∧ es.size = n ∧ SetD knd key S es t
variable {knd : KeyKind P w κ} {key : Value → κ} {A : Around} {E : Value → Shared → Prop} {s : Shared} {a : Addr} {S : κ → Bool} {n : Nat}
theorem SetX.keep {h h' : Heap} (R : SetX knd key h a S n) (k : ∀ o, h.get? a = some o → h'.get? a = some o) : SetX knd key h' a S n := by
  obtain ⟨o, es, ep, t, ho, rest⟩ := R
  exact ⟨o, es, ep, t, k o ho, rest⟩
theorem SetX.ext {h : Heap} {S' : κ → Bool} (R : SetX knd key h a S n) (e : ∀ k, S' k = S k) : SetX knd key h a S' n := by
  have : S' = S := funext e
  rw [this]; exact R
theorem ks_mem (hk : ∀ k v, knd.is k v = true → key v = k) {l : List (Int × Value)} (el : ElemsOf knd l) (k : κ) : k ∈ ks key l ↔ ∃ e ∈ l, knd.is k e.2 = true := by
  unfold ks
  rw [List.mem_map]
  refine ⟨fun ⟨e, he, q⟩ => ⟨e, he, ?_⟩, fun ⟨e, he, q⟩ => ⟨e, he, hk _ _ q⟩⟩
  obtain ⟨⟨k', h1, _⟩, _⟩ := el e he
  have := hk _ _ h1
  rw [← q, this]; exact h1
theorem stored {h : Heap} {o : Obj} {es es' : Array (Int × Value)} {ep : Nat} {t t' : SetTable} (ho : h.get? a = some o) (hd : o.data = .set es ep t) :
    (h.update a (Obj.putSet es' t')).get? a = some { o with data := .set es' (ep + 1) t' } := L2.store_at ho hd
theorem add_end {f : Bool → Sem Unit} (hf0 : ∀ (b : Bool) (s1 : Shared) (Q1 : Unit → Shared → Prop), Q1 () s1 → wpAny (model P w) A (f b) Q1 E s1)
    {o : Obj} {es es1 : Array (Int × Value)} {ep : Nat} {t t2 : SetTable} (ho : s.heap.get? a = some o) (hx : o.ExactSet) (hd : o.data = .set es ep t) (D : SetD knd key S es1 t2) {wd : Bool} {R : Option Bool → Shared → Prop}
    (hR : ∀ h2, Heap.SameBut a s.heap h2 → SetX knd key h2 a S es1.size → R (some true) { s with heap := h2 }) :
    wpAny (model P w) A (do
        storeSet a es1 t2
        if (!wd && t2.tooFull) = true then do
            f (relayAll t2 es1 (SetTable.grown es1.size)).2.2
            storeSet a (relayAll t2 es1 (SetTable.grown es1.size)).1 (relayAll t2 es1 (SetTable.grown es1.size)).2.1
            pure (some true)
          else pure (some true)) R E s := by
  refine wpAny_bind (wpAny_storeSet_of ho hd ?_ (fits_of_scanBound D.few))
  have o1 := stored (es' := es1) (t' := t2) ho hd
  have b1 := Heap.SameBut.update s.heap a (Obj.putSet es1 t2)
  by_cases c : (!wd && t2.tooFull) = true
  · rw [if_pos c]
    have p1 := relayAll_perm t2 es1 (SetTable.grown es1.size)
    have p2 := relayAll_fits t2 es1 (SetTable.grown es1.size)
    have p3 := relayAll_ris t2 es1 (SetTable.grown es1.size)
    have p4 := relayAll_led t2 es1 (SetTable.grown es1.size)
    generalize relayAll t2 es1 (SetTable.grown es1.size) = Z at p1 p2 p3 p4 ⊢
    obtain ⟨es2, t3, gv⟩ := Z
    simp only at p1 p2 p3 p4 ⊢
    have z : es2.size = es1.size := by have := p1.length_eq; rwa [Array.length_toList, Array.length_toList] at this
    refine wpAny_bind (hf0 _ _ _ (wpAny_bind (wpAny_storeSet_of o1 rfl ?_ (fits_of_scanBound (by rw [z]; exact D.few)))))
    have pk : (ks key es2.toList).Perm (ks key es1.toList) := p1.map _
    exact wpAny_pure (hR _ (b1.trans (Heap.SameBut.update _ a _)) ⟨_, es2, _, t3, stored (es' := es2) (t' := t3) o1 rfl, hx, rfl, z, D.el.perm p1, pk.nodup_iff.mpr D.nd, fun k => (D.mem k).trans pk.mem_iff.symm, by rw [z]; exact D.few, p2, p3, D.led.imp id fun q => by rw [p4]; exact q⟩)
  · rw [if_neg c]
    exact wpAny_pure (hR _ b1 ⟨_, es1, _, t2, o1, hx, rfl, rfl, D⟩)
theorem add_hashed (hk : ∀ k v, knd.is k v = true → key v = k) {k : κ} {x : Value} {Q : Bool → Shared → Prop} (kx : knd.is k x = true) (hs : x.scannable = true) (R : SetX knd key s.heap a S n) (room : n + 1 < scanBound)
    (hQ : ∀ h2, Heap.SameBut a s.heap h2 → SetX knd key h2 a (fun j => S j || decide (j = k)) (if S k = true then n else n + 1) → Q (!S k) { s with heap := h2 }) :
    wpAny (model P w) A (setAddHashed a x (knd.hash k)) Q E s := by
  obtain ⟨o, es, ep, t, ho, hx, hd, hn, D⟩ := R
  unfold setAddHashed setAddHashedIn
  refine wpAny_holding ?_
  refine wpAny_bind (wpAny_setState_of ho hd D.fit ?_)
  simp only
  rw [byScan_of hs D.few D.el]
  simp only [↓reduceIte]
  unfold setAddByScan
  refine wpAny_bind (wpAny_bind (wpAny_rule (wpAny_bind (wpAny_setScan_of kx ho hd D.fit D.el ?_))))
  have inl : S k = true ↔ ∃ e ∈ es.toList, knd.is k e.2 = true := (D.mem k).trans (ks_mem hk D.el k)
  cases fi : es.toList.findIdx? (fun e => knd.is k e.2) with
  | some j =>
    simp only
    obtain ⟨hj, pj, _⟩ := List.findIdx?_eq_some_iff_getElem.mp fi
    have yes : S k = true := inl.mpr ⟨es.toList[j], List.getElem_mem hj, pj⟩
    have m2 : ∀ i, (S i || decide (i = k)) = true ↔ i ∈ ks key es.toList := fun i => by
      rw [Bool.or_eq_true, decide_eq_true_eq, ← D.mem i]
      exact ⟨fun z => z.elim id fun e => e ▸ yes, .inl⟩
    have q := hQ s.heap (Heap.SameBut.refl a s.heap) ⟨o, es, ep, t, ho, hx, hd, by rw [if_pos yes]; exact hn, ⟨D.el, D.nd, m2, D.few, D.fit, D.ris, D.led⟩⟩
    rw [yes] at q
    exact wpAny_pure (wpAny_pure q)
  | none =>
    simp only
    have no : S k = false := Bool.eq_false_iff.mpr fun z => by
      obtain ⟨e, he, q⟩ := inl.mp z
      rw [List.findIdx?_eq_none_iff.mp fi e he] at q
      cases q
    have nk : k ∉ ks key es.toList := fun z => by rw [(D.mem k).mpr z] at no; cases no
    have gv : ∀ (b : Bool) {s1 : Shared} {Q1 : Unit → Shared → Prop}, Q1 () s1 → wpAny (model P w) A (match b with | true => rule "set.scan.the-table-gave-way" | false => pure ()) Q1 E s1 := by
      intro b s1 Q1 q
      cases b
      · exact wpAny_pure q
      · exact wpAny_rule q
    have p1 := layNew_perm t es (knd.hash k) x
    have p2 := layNew_fits t es (knd.hash k) x
    have p3 := layNew_ris t es (knd.hash k) x D.ris
    have p4 := layNew_led t es (knd.hash k) x
    generalize layNew t es (knd.hash k) x = Z at p1 p2 p3 p4 ⊢
    obtain ⟨es1, t1, wd, gave⟩ := Z
    simp only at p1 p2 p3 p4 ⊢
    rw [Array.toList_push] at p1
    have pc : es1.toList.Perm ((knd.hash k, x) :: es.toList) := p1.trans (List.perm_append_singleton _ _)
    have pk : (ks key es1.toList).Perm (k :: ks key es.toList) := by
      have := pc.map fun e => key e.2
      rw [List.map_cons] at this
      have ex : key x = k := hk _ _ kx
      simp only [ex] at this
      exact this
    have zn : es1.size = n + 1 := by have := pc.length_eq; rw [Array.length_toList, List.length_cons, Array.length_toList, hn] at this; exact this
    have D1 : ∀ t2 : SetTable, t2.fits es1.size = true → Ris t2.place.toList → t2.led = t.led → SetD knd key (fun j => S j || decide (j = k)) es1 t2 := fun t2 f2 r2 l2 =>
      { el := (D.el.push kx hs).perm p1
        nd := pk.nodup_iff.mpr (List.nodup_cons.mpr ⟨nk, D.nd⟩)
        mem := fun i => by
          rw [Bool.or_eq_true, decide_eq_true_eq, D.mem i, pk.mem_iff, List.mem_cons]
          exact Or.comm
        few := by rw [zn]; exact room
        fit := f2
        ris := r2
        led := D.led.imp id fun z => by rw [l2]; exact z }
    have fin : ∀ h2, Heap.SameBut a s.heap h2 → SetX knd key h2 a (fun j => S j || decide (j = k)) es1.size → Q true { s with heap := h2 } := fun h2 sb r => by
      have q := hQ h2 sb
      rw [no] at q
      rw [zn] at r
      exact q r
    refine wpAny_bind (gv _ ?_)
    split
    · refine wpAny_bind ?_
      rw [hashByValue_scannable 8 hs]
      refine wpAny_pure (add_end ?_ ho hx hd (D1 _ ?_ ?_ ?_) ?_)
      · intro b s1 Q1 q
        cases b
        · exact wpAny_pure q
        · exact wpAny_rule q
      · split
        · exact p2
        · exact SetTable.fits_plain_off p2
      · split <;> exact p3
      · split <;> exact p4
      · intro h2 sb r; simp only; exact wpAny_pure (fin h2 sb r)
    · refine wpAny_bind (wpAny_pure ?_)
      simp only [↓reduceIte]
      refine add_end ?_ ho hx hd (D1 _ p2 p3 p4) ?_
      · intro b s1 Q1 q
        cases b
        · exact wpAny_pure q
        · exact wpAny_rule q
      · intro h2 sb r; simp only; exact wpAny_pure (fin h2 sb r)
theorem upd_loop (hk : ∀ k v, knd.is k v = true → key v = k) {I : Addr} {fp wr : List Addr} {G : Array GenState → Array GenState → Prop} {m : Nat} {Pv : Nat → Value → Prop} {St : Nat → Shared → Prop} {R : Result → Shared → Prop}
    (W : WalksS P w A.in1 I fp wr G m Pv St) (T : Addr) (hT : T ∉ fp) (xs : List κ) (hm : m = xs.length) (hb : m + 1 < scanBound) (item : ∀ i v, Pv i v → ∃ k, xs[i]? = some k ∧ knd.is k v = true ∧ v.scannable = true) :
    ∀ (j i : Nat) (s : Shared), i + j = m → St i s → (∃ c, c ≤ i ∧ SetX knd key s.heap T (fun z => decide (z ∈ xs.take i)) c) →
      (∀ s2 c, Moved (T :: wr) G s s2 → c ≤ m → SetX knd key s2.heap T (fun z => decide (z ∈ xs)) c → R (.ok (.ret .none)) s2) → codeAny (model P w) A (.builtin "set.update.loop" ⟨[.ref T, .ref I], []⟩) R s := by
  have Tw : T ∉ wr := fun h => hT (W.sub _ h)
  have more : ∀ b ∈ wr, b ∈ T :: wr := fun b h => List.mem_cons_of_mem _ h
  intro j
  induction j with
  | zero =>
    rintro i s hi st ⟨c, hc, hS⟩ hR
    obtain rfl : i = m := by omega
    refine codeAny_builtin (F.entry_set_update_loop) ?_
    rw [Around.under_plainId (F.plain_set_update_loop) _]
    show wpAny _ A.in1 (pyNext (Value.ref I) >>= _) _ _ s
    refine wpAny_bind (W.done s _ _ st fun s2 mv => ?_)
    show wpAny _ A.in1 (ret .none) _ _ s2
    rw [List.take_of_length_le (by omega)] at hS
    exact wpAny_pure (hR s2 c (mv.mono more) hc (hS.keep fun o e => mv.heap T o Tw e))
  | succ j ih =>
    rintro i s hi st ⟨c, hc, hS⟩ hR
    have lt : i < m := by omega
    refine codeAny_builtin (F.entry_set_update_loop) ?_
    rw [Around.under_plainId (F.plain_set_update_loop) _]
    show wpAny _ A.in1 (pyNext (Value.ref I) >>= _) _ _ s
    refine wpAny_bind (W.item i s _ _ lt st fun v s2 hP st2 mv => ?_)
    obtain ⟨k, hx, kx, sc⟩ := item i v hP
    have hS2 : SetX knd key s2.heap T (fun z => decide (z ∈ xs.take i)) c := hS.keep fun o e => mv.heap T o Tw e
    show wpAny _ A.in1 (holding [v] (setAdd T v) >>= _) _ _ s2
    refine wpAny_bind (wpAny_holding ?_)
    unfold setAdd
    refine wpAny_holding (wpAny_bind (knd.pyHash kx ?_))
    refine add_hashed (s := { s2 with toks := s2.toks + 1 }) hk kx sc hS2 (by omega) fun h2 sb hS3 => ?_
    have hS4 : SetX knd key h2 T (fun z => decide (z ∈ xs.take (i + 1))) (if decide (k ∈ xs.take i) = true then c else c + 1) := hS3.ext fun z => by
      rw [List.take_add_one, hx]
      simp
    have hc4 : (if decide (k ∈ xs.take i) = true then c else c + 1) ≤ i + 1 := by split <;> omega
    refine wpAny_pure ⟨plainId_quiet (F.plain_set_update_loop) _, ih (i + 1) _ (by omega) ?_ ⟨_, hc4, hS4⟩ fun s3 c3 mv3 hc3 hS5 => ?_⟩
    · refine W.frame _ s2 _ _ st2 (Nat.le_succ _) fun b hb' o e => ?_
      rw [sb.2 b fun q => hT (by rw [← q]; exact hb')]
      exact e
    · refine hR s3 c3 (Moved.trans W.gtrans ((mv.mono more).then_heap (Nat.le_succ _) fun b o hb' e => ?_) mv3) hc3 hS5
      rw [sb.2 b fun q => hb' (by rw [q]; exact List.mem_cons_self)]
      exact e
/-- the new set's object -/
def raw (w : World) : Obj := { cls := .type "set", dict := none, data := .set #[] 0 (.fresh 0 0 (!w.params.followText "set-order")) }
theorem raw_set {h : Heap} {xs : List κ} (ho : h.get? a = some (raw w)) : SetX knd key h a (fun z => decide (z ∈ xs.take 0)) 0 := by
  refine ⟨_, #[], 0, _, ho, ⟨rfl, rfl, rfl⟩, rfl, rfl, ⟨fun e he => by simp at he, by simp [ks], fun k => by simp [ks], by decide, by rfl, List.Pairwise.nil, ?_⟩⟩
  show _ ∨ (!w.params.followText "set-order") = true
  cases w.params.followText "set-order" with
  | true => exact .inl rfl
  | false => exact .inr rfl
theorem set_list (hk : ∀ k v, knd.is k v = true → key v = k) {l : Addr} {items : Array Value} (xs : List κ) {Q : Value → Shared → Prop} (hh : A.handled = none) (hl : s.heap.IsList l items) (hz : items.size = xs.length) (item : ∀ (i : Nat) v, items[i]? = some v → ∃ k, xs[i]? = some k ∧ knd.is k v = true ∧ v.scannable = true) (hb : xs.length + 1 < scanBound)
    (hQ : ∀ (h2 : Heap) (tk c : Nat), SetX knd key h2 s.heap.objs.size (fun z => decide (z ∈ xs)) c → c ≤ xs.length → (∀ b o, s.heap.get? b = some o → h2.get? b = some o) → Q (.ref s.heap.objs.size) { s with heap := h2, toks := tk }) :
    wpAny (model P w) A (call (.type "set") [.ref l]) Q E s := by
  obtain ⟨c0, tl, mro⟩ := F.called_set.mro
  have f1 := F.called_set.made
  have f2 := F.called_set.sub
  refine wpAny_call (codeAny_of_tree ?_)
  show wpAny _ _ (callAny (Value.type "set") _) _ _ _
  refine wpAny_pure ⟨Code.quiet_builtin _ (by decide +kernel), codeAny_builtin PySem.F.entry_type_call ?_⟩
  rw [Around.under_plain (weight_type_call_type "set" [Value.ref l] []) rfl]
  have f3 := F.called_set.notType
  have f4 := F.called_set.canCreate
  have f5 := F.typeCall_set_1 (.ref l)
  repeat any_goals first | assumption | wp_step
  refine codeAny_mono (code_set_led1 (.ref l) (E := E) (Q₁ := fun v s1 => v = .ref s.heap.objs.size ∧ s1 = { s with heap := s.heap.push (raw w) }) ⟨rfl, rfl⟩) fun r s1 hr => ?_
  cases r with
  | error e => exact hr
  | ok fl =>
  cases fl with
  | next | brk | cont => exact hr.elim
  | ret v =>
  obtain ⟨rfl, rfl⟩ := hr
  have hS : (s.heap.push (raw w)).get? s.heap.objs.size = some (raw w) := Heap.get?_push_size _ rfl
  have hT : Shared.TypeIs { s with heap := s.heap.push (raw w) } (.ref s.heap.objs.size) "set" := ⟨_, hS, rfl⟩
  have f6 := F.called_set.init.lookup
  have f7 := F.called_set.init.bind (.ref s.heap.objs.size)
  repeat any_goals first | assumption | wp_step
  refine codeAny_mono (codeAny_call_builtin (R := wants (fun r s2 => r = .none ∧ ∃ h2 tk c, s2 = { s with heap := h2, toks := tk } ∧ SetX knd key h2 s.heap.objs.size (fun z => decide (z ∈ xs)) c ∧ c ≤ xs.length ∧ ∀ b o, s.heap.get? b = some o → h2.get? b = some o) E)
    F.called_set.init.plain F.entry_set_init (check_set_init_1 hT ?_)) fun r2 s2 hr2 => ?_
  · obtain ⟨⟨lc, ld, ldt, lsl⟩, lo, e1, nl, e2⟩ := hl
    simp only at e1 e2
    subst e1 e2
    have lo' : (s.heap.push (raw w)).get? l = some { cls := .type "list", dict := ld, data := .seq items nl, slots := lsl } := Heap.get?_push_of_some _ lo
    have g1 := F.sub_list_set
    have g2 := F.sub_list_frozenset
    have g3 : (Value.type "list" == Value.type "dict") = false := by decide
    have hl1 : (s.heap.push (raw w)).IsList l items := ⟨_, lo', rfl, nl, rfl⟩
    unfold Builtin.«set.__init__» noKeywords Builtin.Frozenset.updateFrom
    generalize hI : pyIter = PI
    wp_walk
    subst hI
    refine wpAny_pyIter_list hl1 (wpAny_bind (wpAny_runValue ?_))
    have lS : l < s.heap.objs.size := Heap.lt_size lo
    have h3 : A.in1.in1.in1.handled = none := by simp [hh]
    have nI : l ≠ (s.heap.push (raw w)).objs.size := by rw [Heap.size_push]; exact Nat.ne_of_lt (Nat.lt_succ_of_lt lS)
    have nT : s.heap.objs.size ∉ [(s.heap.push (raw w)).objs.size, l] := by
      rw [Heap.size_push]
      simp only [List.mem_cons, List.not_mem_nil, or_false, not_or]
      exact ⟨Nat.ne_of_lt (Nat.lt_succ_self _), fun q => Nat.lt_irrefl _ (q ▸ lS)⟩
    refine upd_loop hk ((Walks.list h3 _ l nI items).toS) s.heap.objs.size nT xs hz (by omega) item items.size 0 _ (by omega) ⟨⟨_, Heap.get?_push_size _ rfl, rfl, rfl⟩, hl1.push _⟩ ⟨0, Nat.le_refl 0, raw_set ?_⟩ fun s3 c3 mv hc3 hS3 => ?_
    · exact Heap.get?_push_of_some _ hS
    · obtain ⟨h3', g3', d3, tk3, os3⟩ := s3
      obtain rfl : g3' = s.gens := mv.gens
      obtain rfl : d3 = s.drawn := mv.drawn
      obtain rfl : os3 = s.os := mv.os
      show wpAny _ _ _ _ _ _
      refine wpAny_pure ?_
      show wpAny _ _ (ret .none) _ _ _
      rw [hz] at hc3
      refine wpAny_pure ⟨rfl, h3', tk3, c3, rfl, hS3, hc3, fun b o e => ?_⟩
      have b0 : b < s.heap.objs.size := Heap.lt_size e
      refine mv.heap b o ?_ (Heap.get?_push_of_some _ (Heap.get?_push_of_some _ e))
      rw [Heap.size_push]
      simp only [List.mem_cons, List.not_mem_nil, or_false, not_or]
      exact ⟨Nat.ne_of_lt b0, Nat.ne_of_lt (Nat.lt_succ_of_lt b0)⟩
  · cases r2 with
    | error e => exact hr2
    | ok fl2 =>
    cases fl2 with
    | next | brk | cont => exact hr2.elim
    | ret r =>
    obtain ⟨rfl, h2, tk, c2, rfl, hS2, hc2, keep⟩ := hr2
    repeat any_goals first | assumption | wp_step
    exact hQ _ _ _ hS2 hc2 keep
end
end XG

namespace XG
open PySem PySem.Spec PyProof.Rows L2
/-! ### sorted(set(xs)), xs a list of texts -/
def keyS : Value → Str
  | .str x _ => x
  | _ => ""
theorem keyS_is (P : Program) (w : World) : ∀ k v, (PySem.strKind P w).is k v = true → keyS v = k := fun k v h => by
  obtain ⟨t, rfl⟩ := Value.isStrOf_shape h
  rfl
theorem strs_or : ∀ (l : List Value), (∀ v ∈ l, ∃ x t, v = Value.str x t) → StrsAre l (l.map keyS)
  | [], _ => .nil
  | v :: l, h => by
    obtain ⟨x, t, rfl⟩ := h _ List.mem_cons_self
    exact .cons x t (strs_or l fun u hu => h u (List.mem_cons_of_mem _ hu))
section
variable {P : Program} {w : World} {A : Around} {E : Value → Shared → Prop} {s : Shared} {a : Addr} {S : Str → Bool} {n : Nat}
theorem sorted_texts {Q : Value → Shared → Prop} (R : SetX (PySem.strKind P w) keyS s.heap a S n) (hh : A.handled = none) (h64 : n < 64)
    (hQ : ∀ s2 p (out : Array Value) (c : Nat) (ys : List Str), (∀ b o, s.heap.get? b = some o → s2.heap.get? b = some o) → s2.gens = s.gens → s2.os = s.os → s.heap.objs.size ≤ p → s2.heap.get? p = some (seqObj "list" out c) →
      StrsAre out.toList ys → sortedS ys = true → ys.Nodup → (∀ k, k ∈ ys ↔ S k = true) → ys.length = n → Q (.ref p) s2) : wpAny (model P w) A (call (.builtin "sorted") [.ref a]) Q E s := by
  obtain ⟨o, es, ep, t, ho, hx, hd, hn, D⟩ := R
  refine Calls.call_function_entry (kind_sorted) (plain_sorted) (entry_sorted) (args_sorted1 _) ?_
  unfold Builtin.«sorted»
  refine wpAny_bind (m := checkCount "sorted" 1 1 _) (wpAny_pure (wpAny_bind (collect_set (A := A.in1) hh ⟨o, ho, hx.1, hd⟩ D.fit D.few D.ris D.led fun s1 vs k1 z1 g1 o1 pm => ?_)))
  have vl : vs.length = n := by rw [pm.length_eq, List.length_map, Array.length_toList]; exact hn
  have all : ∀ v ∈ vs, ∃ x tk, v = Value.str x tk := fun v hv => by
    obtain ⟨e, he, rfl⟩ := List.mem_map.mp (pm.mem_iff.mp hv)
    obtain ⟨⟨k, h1, _⟩, _⟩ := D.el e he
    obtain ⟨tk, q⟩ := Value.isStrOf_shape h1
    exact ⟨k, tk, q⟩
  have hI := strs_or vs all
  have pk : (vs.map keyS).Perm (ks keyS es.toList) := by
    have q := pm.map keyS
    rw [List.map_map] at q
    exact q
  refine wpAny_bind (wpAny_newList ?_ (by rw [vl, sizeLine_eq]; omega))
  have oL : (s1.heap.push (seqObj "list" vs.toArray 0)).get? s1.heap.objs.size = some (seqObj "list" vs.toArray 0) := Heap.get?_push_size _ rfl
  refine wpAny_bind (wpAny_holding (wpAny_call_entry slot_list_sort ⟨_, oL, rfl⟩ entry_list_sort
    (list_sort_treeK strKind_oneLt oL hI.keysOf (fun v1 v2 r e => keyKind_strs (by rw [← e]; exact hI)) (by rw [vl]; exact h64) fun st pe so => ⟨_, rfl, ?_⟩) (args_list_sort _)))
  obtain ⟨ys, a1, a2, a3⟩ := sorted_out_str hI pe so
  obtain ⟨c, hc⟩ := sortedHeap_at (vs := vs) (out := (arrOf st).map (·.2)) oL
  have pn := a2.trans pk
  refine wpAny_pure ⟨_, rfl, hQ _ s1.heap.objs.size _ c ys (fun b u e => ?_) g1 o1 z1 hc a1 a3 (pn.nodup_iff.mpr D.nd) (fun k => by rw [pn.mem_iff, ← D.mem k]) ?_⟩
  · have q := k1 b u e
    have lt := Heap.lt_size q
    show (sortedHeap (s1.heap.push (seqObj "list" vs.toArray 0)) s1.heap.objs.size vs _).get? b = some u
    rw [sortedHeap_old (Nat.ne_of_lt lt) (by rw [size_push']; exact Nat.lt_succ_of_lt lt)]
    exact Heap.get?_push_of_some _ q
  · have : (ks keyS es.toList).length = n := by unfold ks; rw [List.length_map, Array.length_toList]; exact hn
    rw [pn.length_eq, this]
end
/-- the set of texts at a -/
def SetSO (P : Program) (w : World) (a : Addr) (S : Str → Bool) (n : Nat) : HO := .ext fun h => SetX (PySem.strKind P w) keyS h a S n
section
variable {X : Cx} {A : Around}
theorem setSO_new {w : World} {P : Program} {H : Hp} {h : Heap} {a : Addr} {S : Str → Bool} {n : Nat} (R : SetX (PySem.strKind P w) keyS h a S n) : ObjOk P w H h a (SetSO P w a S n) := by
  have ⟨o, _, _, _, ho, _⟩ := R
  exact ⟨R, ⟨o, ho⟩, fun _ _ p k => SetX.keep p k⟩
/-- set(xs) -/
def rSetS (P : Program) (w : World) (K : PySem.W.Frag) : List V → Hp → VK → Prop := fun vs H Q => ∃ (l : Addr) (xs : List Str), vs = [.ref l] ∧ SqL K H l (xs.map V.str) ∧ xs.length ≤ 1000 ∧ ∀ p c, H p = none → c ≤ xs.length → Q (.ref p) (upd H p (SetSO P w p (fun z => decide (z ∈ xs)) c))
theorem cr_setS (P : Program) (w : World) (K : PySem.W.Frag) (hc : X.calm = true) (hP : X.prog = P := by rfl) (hw : X.w = w := by rfl) (hK : X.K = K := by rfl) : CallR X (.type "set") (rSetS P w K) := by
  subst hK hP hw
  intro pins s σ H vs us Q I r h
  obtain ⟨l, xs, rfl, hs, hz, q⟩ := h
  rw [Vals.ref1 r]
  obtain ⟨its, rv, hl, _⟩ := I.list hs
  have il : its.length = xs.length := by have := rv.length; rw [List.length_map] at this; exact this.symm
  have sb : (1001 : Nat) < scanBound := by decide
  refine set_list (knd := PySem.strKind X.prog X.w) (key := keyS) (keyS_is _ _) xs (I.ok.hd hc) hl.isList (by rw [List.size_toArray, il]) (fun i v hv => ?_) (by omega) fun h2 tk c R hc2 kp => ?_
  · have hi : i < xs.length := by rw [← il]; simpa using (Array.getElem?_eq_some_iff.mp hv).1
    obtain ⟨u, hu, t, hu2⟩ := rv.get (i := i) (x := .str xs[i]) (by rw [List.getElem?_map, List.getElem?_eq_getElem hi]; rfl)
    have : v = u := by
      rw [List.getElem?_toArray] at hv
      rw [hv] at hu
      exact Option.some.inj hu
    subst this hu2
    exact ⟨xs[i], List.getElem?_eq_getElem hi, strKind_is _ _ _ _, rfl⟩
  · have fr : H s.heap.objs.size = none := I.hok.fresh (Nat.le_refl _)
    exact ⟨.ref _, upd H s.heap.objs.size (SetSO X.prog X.w s.heap.objs.size (fun z => decide (z ∈ xs)) c), I.laid (t' := tk) (fun b u e => kp b u e) (Nat.le_refl _) (setSO_new R), rfl, q _ _ fr hc2⟩
/-- sorted of it -/
def rSrtS (P : Program) (w : World) : List V → Hp → VK → Prop := fun vs H Q => ∃ (a : Addr) (S : Str → Bool) (n : Nat), vs = [.ref a] ∧ H a = some (SetSO P w a S n) ∧ n < 64 ∧
  ∀ (ys : List Str) (p : Addr), sortedS ys = true → ys.Nodup → (∀ k, k ∈ ys ↔ S k = true) → ys.length = n → H p = none → Q (.ref p) (upd H p (.lst (ys.map V.str)))
theorem cr_srtS (P : Program) (w : World) (hc : X.calm = true) (hP : X.prog = P := by rfl) (hw : X.w = w := by rfl) : CallR X (.builtin "sorted") (rSrtS P w) := by
  subst hP hw
  intro pins s σ H vs us Q I r h
  obtain ⟨a, S, n, rfl, ha, h64, q⟩ := h
  have R : SetX (PySem.strKind X.prog X.w) keyS s.heap a S n := (I.hok a _ ha).1
  rw [Vals.ref1 r]
  refine sorted_texts R (I.ok.hd hc) h64 fun s2 p out c ys k g o hp hg hi hs nd hm hl => ?_
  have len : (ys.map V.str).length ≤ sizeLine := by rw [List.length_map, hl, sizeLine_eq]; omega
  have fr : H p = none := I.hok.fresh hp
  obtain ⟨h2, g2, d2, t2, o2⟩ := s2
  simp only at g o
  subst g o
  exact ⟨.ref p, upd H p (.lst (ys.map V.str)), I.call (t' := t2) (ch := []) (Un.laid k hp fr) (I.hok.laid k hp ⟨len, out.toList, c, vals_of_strs hi, hg⟩) I.bare (fun _ z => nomatch z), rfl, q ys p hs nd hm hl fr⟩
end
end XG

namespace XS
open PySem PySem.Spec PyProof.Rows L2
/-! ### statements with other sums -/
mutual
def mapS (f : Sm → Sm) : Stm → Stm
  | .above s => .above (f s)
  | .nought s => .nought (f s)
  | .goes m s => .goes m (f s)
  | .neg a => .neg (mapS f a)
  | .con o l => .con o (mapSs f l)
  | .bnd o x a => .bnd o x (mapS f a)
def mapSs (f : Sm → Sm) : List Stm → List Stm
  | [] => []
  | a :: l => mapS f a :: mapSs f l
end
theorem mapSs_map (f : Sm → Sm) : ∀ l, mapSs f l = l.map (mapS f)
  | [] => rfl
  | a :: l => by rw [List.map_cons, ← mapSs_map f l]; rfl
theorem mapS_con (f : Sm → Sm) (o : Bool) (l : List Stm) : mapS f (.con o l) = .con o (l.map (mapS f)) := by
  show Stm.con o (mapSs f l) = _
  rw [mapSs_map]
theorem mapS_end {f : Sm → Sm} {a : Stm} (e : isEnd a = true) : mapS f a = mapS (fun _ => f (sumOf a)) a := by
  cases a <;> first | rfl | cases e
/-- an end's tuple: what stands ahead of its sum, the sum; with another sum in its place -/
theorem end_tup {K : PySem.W.Frag} {H : Hp} {v : V} {a : Stm} (e : isEnd a = true) (h : Dp K H v (toD a)) : ∃ p hd u, v = .ref p ∧ SqT K H p (hd ++ [u]) ∧ hd.length ≤ 2 ∧ hd ≠ [] ∧ Dp K H u (sumD (sumOf a)) ∧
    ∀ (s : Sm) (t : Addr) (H' : Hp) (u' : V), SqT K H' t (hd ++ [u']) → Dp K H' u' (sumD s) → Dp K H' (.ref t) (toD (mapS (fun _ => s) a)) := by
  cases a with
  | neg c | con o l | bnd o y c => cases e
  | above s | nought s =>
    obtain ⟨p, u, us, rfl, h1, h2, h3⟩ := Dp.one1 h
    cases h2
    cases h3 with
    | cons g1 g2 =>
    cases g2
    exact ⟨p, [.str _], _, rfl, h1, by simp, by simp, g1, fun s t H' u' a1 a2 => .tup a1 (.cons (.str _) (.one a2))⟩
  | goes m s =>
    obtain ⟨p, u, us, rfl, h1, h2, h3⟩ := Dp.one1 h
    cases h2
    cases h3 with
    | cons g1 g2 =>
    cases g1
    cases g2 with
    | cons g3 g4 =>
    cases g4
    exact ⟨p, [.str _, .int _], _, rfl, h1, by simp, by simp, g3, fun s t H' u' a1 a2 => .tup a1 (.cons (.str _) (.cons (.int _) (.one a2)))⟩
theorem sIx_last {n : Nat} (h : 0 < n) : HT.sIx n n (some (-1)) = n - 1 := by
  unfold HT.sIx
  simp only
  rw [if_pos (by decide)]
  omega
section
variable {K : PySem.W.Frag} {H : Hp} {Q : VK} {p : Addr} {hd : List V} {u : V}
/-- t[:-1] -/
theorem x_cutLast (h : SqT K H p (hd ++ [u])) (q : ∀ t H', Same H H' → H' t = some (.tup hd) → Q (.ref t) H') : rSlA K (.ref p) none (some (-1)) H Q := by
  have hl : (hd ++ [u]).length = hd.length + 1 := by rw [List.length_append]; rfl
  refine ⟨p, hd ++ [u], rfl, h, fun ⟨_, c⟩ => ?_, fun _ t ht => ?_⟩
  · rw [sIx_last (by omega)] at c
    omega
  · have e : cutV (hd ++ [u]) none (some (-1)) = hd := by
      unfold cutV
      rw [sIx_last (by omega), HT.sIx_none, List.drop_zero, Nat.sub_zero, hl, Nat.add_sub_cancel, List.take_left']
      rfl
    rw [e]
    exact q t _ (same_upd ht) upd_same
theorem atI_last : atI (hd ++ [u]) (-1) = some u := by
  have hl : (hd ++ [u]).length = hd.length + 1 := by rw [List.length_append]; rfl
  have e : ixN (hd ++ [u]).length (-1) = some hd.length := by
    rw [hl]
    unfold ixN
    rw [if_neg (by decide), if_pos (by omega)]
    congr 1
    omega
  unfold atI
  rw [e]
  simp
end
/-! ### data of statements, for the law's own look -/
theorem Al.up {n : Nat} {d : PyData} (h : Al n d) : ∀ {m : Nat}, n ≤ m → Al m d := by
  induction h with
  | int i => exact fun _ => .int i
  | str x => exact fun _ => .str x
  | tru => exact fun _ => .tru
  | non => exact fun _ => .non
  | tup _ hl ih =>
    intro m hm
    obtain ⟨j, rfl⟩ : ∃ j, m = j + 1 := ⟨m - 1, by omega⟩
    exact .tup (fun d hd => ih d hd (by omega)) hl
  | lst _ hl ih =>
    intro m hm
    obtain ⟨j, rfl⟩ : ∃ j, m = j + 1 := ⟨m - 1, by omega⟩
    exact .lst (fun d hd => ih d hd (by omega)) hl
theorem al_two {n : Nat} {a b : PyData} (h1 : Al n a) (h2 : Al n b) : Al (n + 1) (.tuple [a, b]) := .tup (fun d hd => by
  rcases List.mem_cons.mp hd with rfl | hd
  · exact h1
  · rw [List.mem_singleton.mp hd]; exact h2) (by simp)
theorem al_three {n : Nat} {a b c : PyData} (h1 : Al n a) (h2 : Al n b) (h3 : Al n c) : Al (n + 1) (.tuple [a, b, c]) := .tup (fun d hd => by
  rcases List.mem_cons.mp hd with rfl | hd
  · exact h1
  rcases List.mem_cons.mp hd with rfl | hd
  · exact h2
  · rw [List.mem_singleton.mp hd]; exact h3) (by simp)
theorem al_toD {p : Sm → Prop} (hp : ∀ s, p s → s.2.length ≤ 1000) {a : Stm} (e : Ev p a) : Al (2 * dep a + 2) (toD a) := by
  induction e with
  | above h => exact al_two (.str _) (al_sum (n := 0) (hp _ h))
  | nought h => exact al_two (.str _) (al_sum (n := 0) (hp _ h))
  | goes h _ => exact al_three (.str _) (.int _) (al_sum (n := 0) (hp _ h))
  | @neg c _ ih =>
    have e : 2 * dep (Stm.neg c) + 2 = (2 * dep c + 3) + 1 := by show 2 * (dep c + 1) + 2 = _; omega
    rw [e]
    exact al_two (.str _) (ih.up (by omega))
  | @bnd o x c _ ih =>
    have e : 2 * dep (Stm.bnd o x c) + 2 = (2 * dep c + 3) + 1 := by show 2 * (dep c + 1) + 2 = _; omega
    rw [e]
    exact al_three (.str _) (.str _) (ih.up (by omega))
  | @con o l _ hl ih =>
    have e : 2 * dep (Stm.con o l) + 2 = (2 * deps l + 2 + 1) + 1 := by show 2 * (deps l + 1) + 2 = _; omega
    rw [e]
    refine al_two (.str _) ?_
    rw [toDs_map]
    refine .tup (fun d hd => ?_) (by rw [List.length_map]; omega)
    obtain ⟨c, hc, rfl⟩ := List.mem_map.mp hd
    exact (ih c hc).up (by have := dep_in hc; omega)
theorem dep_mapS (f : Sm → Sm) : ∀ (n : Nat) (a : Stm), dep a ≤ n → dep (mapS f a) = dep a
  | 0, a, h => by have := dep_pos a; omega
  | n + 1, a, h => by
    cases a with
    | above _ | nought _ | goes _ _ => rfl
    | neg c =>
      show dep (mapS f c) + 1 = dep c + 1
      rw [dep_mapS f n c (Nat.le_of_succ_le_succ h)]
    | bnd o x c =>
      show dep (mapS f c) + 1 = dep c + 1
      rw [dep_mapS f n c (Nat.le_of_succ_le_succ h)]
    | con o l =>
      show deps (mapSs f l) + 1 = deps l + 1
      rw [mapSs_map]
      have key : ∀ r : List Stm, (∀ c ∈ r, dep c ≤ n) → deps (r.map (mapS f)) = deps r := by
        intro r
        induction r with
        | nil => intro _; rfl
        | cons c r ih =>
          intro hr
          show max (dep (mapS f c)) (deps (r.map (mapS f))) = max (dep c) (deps r)
          rw [ih fun d hd => hr d (List.mem_cons_of_mem _ hd), dep_mapS f n c (hr c (List.mem_cons_self ..))]
      rw [key l fun c hc => Nat.le_trans (dep_in hc) (Nat.le_of_succ_le_succ h)]
theorem Ev.map {p q : Sm → Prop} {f : Sm → Sm} (h : ∀ s, p s → q (f s)) {a : Stm} (e : Ev p a) : Ev q (mapS f a) := by
  induction e with
  | above x => exact .above (h _ x)
  | nought x => exact .nought (h _ x)
  | goes x y => exact .goes (h _ x) y
  | neg _ ih => exact .neg ih
  | bnd _ ih => exact .bnd ih
  | con _ hl ih =>
    rw [mapS_con]
    refine .con (fun c hc => ?_) (by rw [List.length_map]; exact hl)
    obtain ⟨b, hb, rfl⟩ := List.mem_map.mp hc
    exact ih b hb
/-! ### promises of put -/
/-- sums into which o may be put -/
def PutOk (o s : Sm) : Prop := (s.2.map (·.1)).Nodup ∧ s.2.length + o.2.length < 64 ∧ SmlS s
def sp_put_within (n : Nat) (K : PySem.W.Frag) : Sp := fun vs H Q _ => ∃ (v u : V) (x : Str) (a : Stm) (o : Sm), vs = [v, .str x, u] ∧ Dp K H v (toD a) ∧ Dp K H u (sumD o) ∧ SmlS o ∧ plainB a = true ∧ Ev (PutOk o) a ∧ dep a ≤ n ∧
  ∀ t H', Same H H' → Dp K H' (.ref t) (toD (mapS (fun s => putS s x o) a)) → Q (.ref t) H'
def sp_put (K : PySem.W.Frag) (NP : Addr) : Sp := fun vs H Q E => ∃ (v u : V) (x : Str) (a : Stm) (o : Sm), vs = [v, .str x, u] ∧ Dp K H v (toD a) ∧ Dp K H u (sumD o) ∧ SmlS o ∧ Ev (PutOk o) a ∧ dep a ≤ 60 ∧
  (plainB a = true → ∀ t H', Same H H' → Dp K H' (.ref t) (toD (mapS (fun s => putS s x o) a)) → Q (.ref t) H') ∧ (plainB a = false → ∀ H', Same H H' → E (.ref NP) none H')
def sp_sum_put (P : Program) (w : World) (K : PySem.W.Frag) : Sp := fun vs H Q _ => ∃ (v u : V) (x : Str) (s o : Sm), vs = [v, .str x, u] ∧ Dp K H v (sumD s) ∧ Dp K H u (sumD o) ∧ SmlS o ∧ PutOk o s ∧ (o.2.map (·.1)).Nodup ∧
  ∀ t H', Same H H' → Dp K H' (.ref t) (sumD (putS s x o)) → Q (.ref t) H'
def sp_lput (n : Nat) (K : PySem.W.Frag) : Sp := fun vs H Q _ => ∃ (v u : V) (x : Str) (a : Stm) (o : Sm), vs = [v, .str x, u] ∧ Dp K H v (toD a) ∧ Dp K H u (sumD o) ∧ SmlS o ∧ (o.2.map (·.1)).Nodup ∧ plainB a = true ∧ Ev (PutOk o) a ∧ dep a ≤ n ∧
  ∀ t H', Same H H' → Dp K H' (.ref t) (toD (mapS (fun s => putS s x o) a)) → Q (.ref t) H'
def sp_refused5 (K : PySem.W.Frag) : Sp := fun vs H Q _ => ∃ (v u : V) (x : Str) (a : Stm) (o : Sm), vs = [v, .str x, u] ∧ Dp K H v (toD a) ∧ Dp K H u (sumD o) ∧ SmlS o ∧ plainB a = false ∧ Ev (PutOk o) a ∧ dep a ≤ 60 ∧ ∀ H', Same H H' → Q (.str "not plain") H'
theorem kept_is {ps : List Pr} {f : Str → Int} {ys : List Str} (n : Norm ps) (r : Rising ys) (h : ∀ x, shr ps x = f x) (hf : ∀ x, x ∉ ys → f x = 0) : kept ys f = ps :=
  norm_ext (kept_norm r) n fun x => by rw [kept_shr r hf, h]
theorem putS_norm (s : Sm) (x : Str) (o : Sm) : Norm (putS s x o).2 := nrm_norm _
theorem shr_sml {s : Sm} (nd : (s.2.map (·.1)).Nodup) (h : SmlS s) (x : Str) : Sml (shr s.2 x) := by
  by_cases c : x ∈ s.2.map (·.1)
  · obtain ⟨p, hp, rfl⟩ := List.mem_map.mp c
    rw [shr_at nd hp]
    exact h.2 p hp
  · rw [shr_out c]
    exact sml_small (by decide)
end XS

namespace XJ
open PySem PySem.SeqAt
open AutoSeq1 (wpAny_loadPart')
open MeetsSeq MeetsSeq2 MeetsSeq3 SeqRoads2
/-- xs.extend(t), t a tuple -/
theorem ext_tup (l : Addr) (its : Array Value) (n : Nat) (b : Addr) (its2 : Array Value) (n2 : Nat) (dd2 : Option Addr) (sl2 : Array (Option Value)) (h0 : ¬(!its.isEmpty && Builtin.List.listTooLong (its.size + its2.size)) = true) (h1 : its.size ≤ sizeLine) (h2 : its.size + its2.size ≤ sizeLine + 1) :
    Meets (Builtin.«list.extend» ⟨[.ref l, .ref b], []⟩) (fun _ R s => s.heap.get? l = some { cls := .type "list", dict := none, data := .seq its n, slots := #[] } ∧ s.heap.get? b = some { cls := .type "tuple", dict := dd2, data := .seq its2 n2, slots := sl2 } ∧ R (.ok (.ret Value.none)) { s with heap := s.heap.update l (Obj.mapSeq fun x => x ++ its2) }) :=
  .of_wp fun prog w A R s h => by
    obtain ⟨hp, g, d, tk, os⟩ := s
    obtain ⟨hl, hb, h⟩ := h
    have f1 := AutoSeq1.idx_int
    have f2 := AutoSeq1.sub_tuple_tuple
    have f3 := AutoSeq1.sub_list_list
    have f4 := AutoSeq1.sub_tuple_list
    have f5 := AutoSeq1.sub_list_tuple
    have z : (its ++ its2).size ≤ sizeLine + 1 := by rw [Array.size_append]; exact h2
    (wp_walk using (wpAny_updateSeq hl rfl (hz := h1) (_hz' := z)), wpAny_loadPart' hl, wpAny_loadPart' hb); exact ⟨_, rfl, h⟩
end XJ
namespace XS
open PySem PySem.Spec PyProof.Rows L2
section
variable {X : Cx}
def rExtT (K : PySem.W.Frag) : V → List V → Hp → VK → Prop := fun x vs H Q => ∃ l b xs zs, x = .ref l ∧ vs = [.ref b] ∧ H l = some (.lst xs) ∧ SqT K H b zs ∧ xs.length + zs.length ≤ sizeLine ∧ Q .non (upd H l (.lst (xs ++ zs)))
theorem mt_extT (K : PySem.W.Frag) (hK : X.K = K := by rfl) : MtM X "list.extend" (rExtT K) := by
  subst hK
  intro pins s σ H x vs v us Q I rx rv h
  obtain ⟨l, b, xs, zs, rfl, rfl, hH, hB, hz, q⟩ := h
  cases rx
  obtain ⟨u, rfl, ru⟩ := rv.one
  cases ru
  obtain ⟨z, its, n, r, hl, e⟩ := I.lstM hH
  obtain ⟨its2, r2, ⟨⟨cl2, dd2, dt2, sl2⟩, e2, c2, n2, d2⟩, z2⟩ := I.tuple hB
  simp only at c2 d2
  subst c2 d2
  have l1 := r.length
  have l2 := r2.length
  have sum : its.toArray.size + its2.toArray.size ≤ sizeLine := by rw [List.size_toArray, List.size_toArray]; omega
  have long : ¬ (!its.toArray.isEmpty && Builtin.List.listTooLong (its.toArray.size + its2.toArray.size)) = true := by
    rw [notLongL sum, Bool.and_false]
    exact Bool.false_ne_true
  refine call_meets F.slot_list_extend ⟨_, e, rfl⟩ F.entry_list_extend (F.args_list_extend_2 _ _) (XJ.ext_tup l its.toArray n b its2.toArray n2 dd2 sl2 long (by rw [List.size_toArray]; omega) (by omega)) ⟨e, e2, ?_⟩
  refine ⟨.non, _, I.lset (its' := its ++ its2) hH e (by simp) (r.append r2) ?_, rfl, q⟩
  rw [List.length_append]
  omega
/-- for x in xs, xs a list or a tuple -/
def iSeqB (K : PySem.W.Frag) (tl : TE) : TI := fun σ H R => tl σ H fun x H1 => ∃ a, x = .ref a ∧ (((∃ xs, SqL K H1 a xs) ∧ R (Itl K a) H1) ∨ ((∃ xs, SqT K H1 a xs) ∧ R (Itt K a) H1))
theorem pi_seqB {tg l : Expr} {tl : TE} (K : PySem.W.Frag) (hl : PE X l tl) (hK : X.K = K := by rfl) : PI X tg l (iSeqB K tl) := by
  subst hK
  refine ⟨fun pins s σ H R I h => ?_⟩
  refine thn (hl.run pins s σ H _ I h) fun v s1 ⟨x, H1, I1, r1, a, e, q⟩ => ?_
  subst e
  cases r1
  have fresh : ∀ b ∈ [s1.heap.objs.size], FpOk X pins H1 b := fun b hb => by
    obtain rfl : b = s1.heap.objs.size := by simpa using hb
    exact I1.fpOk (Nat.le_refl _) (I1.hok.fresh (Nat.le_refl _))
  rcases q with ⟨⟨xs, hq⟩, q⟩ | ⟨⟨xs, hq⟩, q⟩
  · obtain ⟨its, rv, p, hz⟩ := I1.list hq
    exact wpAny_pyIter_list p.isList ⟨s1.heap.objs.size, [s1.heap.objs.size], _, _, H1, rfl, I1.kept (t' := s1.toks) fun b o e => Heap.get?_push_of_some _ e, turn_list a _, ⟨_, Heap.get?_push_size _ rfl, rfl, rfl⟩, fresh, q⟩
  · obtain ⟨its, rv, p, hz⟩ := I1.tuple hq
    exact wpAny_pyIter_tuple (show s1.heap.IsTuple a its.toArray from p) ⟨s1.heap.objs.size, [s1.heap.objs.size], _, _, H1, rfl, I1.kept (t' := s1.toks) fun b o e => Heap.get?_push_of_some _ e, turn_tuple a _, ⟨_, Heap.get?_push_size _ rfl, rfl, rfl⟩, fresh, q⟩
/-! ### a written dict of the module: k in d -/
def KHas (K : PySem.W.Frag) (w : World) (a : Addr) (x : Str) (b : Bool) : Prop :=
  ∃ es n r, K.lookup a = some ⟨.type "dict", none, .dict es n, #[]⟩ ∧ PySem.W.KeysLit w.params es.toList ∧ (a == sysModules) = false ∧ PySem.W.nsIn K a x = some r ∧ r.isSome = b
def rKIn (K : PySem.W.Frag) (w : World) (neg : Bool) : R2 := fun x y H Q => ∃ (p : Addr) (z : Str) (b : Bool), x = .str z ∧ y = .ref p ∧ KHas K w p z b ∧ Q (.bl (if neg then !b else b)) H
theorem op_kin (K : PySem.W.Frag) (w : World) (hK : X.K = K := by rfl) (hw : X.w = w := by rfl) : OpR X (compareOp .In) (rKIn K w false) := by
  subst hK hw
  intro pins s σ H x y v u Q I rx ry h
  obtain ⟨p, z, b, rfl, rfl, ⟨es, n, r, hl, hk, low, e, eb⟩, q⟩ := h
  obtain ⟨t, rfl⟩ := rx
  cases ry
  have hm := PySem.W.mapOf_K (prog := X.prog) (w := X.w) I.kIn hl hk
  refine wpAny_in_of (strKind_is X.prog X.w z t) low hm ⟨.bl b, H, I.tok _, ?_, q⟩
  show Value.bool _ = Value.bool b
  rw [PySem.W.find_K hl e, eb]
theorem op_knin (K : PySem.W.Frag) (w : World) (hK : X.K = K := by rfl) (hw : X.w = w := by rfl) : OpR X (compareOp .NotIn) (rKIn K w true) := by
  subst hK hw
  intro pins s σ H x y v u Q I rx ry h
  obtain ⟨p, z, b, rfl, rfl, ⟨es, n, r, hl, hk, low, e, eb⟩, q⟩ := h
  obtain ⟨t, rfl⟩ := rx
  cases ry
  have hm := PySem.W.mapOf_K (prog := X.prog) (w := X.w) I.kIn hl hk
  refine wpAny_notIn_of (strKind_is X.prog X.w z t) low hm ⟨.bl (!b), H, I.tok _, ?_, q⟩
  show Value.bool _ = Value.bool (!b)
  rw [PySem.W.find_K hl e, eb]
theorem ix_kdictK (K : PySem.W.Frag) (w : World) (hK : X.K = K := by rfl) (hw : X.w = w := by rfl) : IxR X (rIxD K w) := by
  subst hK hw
  exact ix_kdict
/-! ### == with a shallow one -/
def rEqM (K : PySem.W.Frag) : R2 := fun x y H Q => ∃ d e, Dp K H x d ∧ Dp K H y e ∧ d.plain = true ∧ Flt e ∧ Q (.bl (PyData.eqv d e)) H
theorem op_eqM (K : PySem.W.Frag) (hu : X.A.units + 64 < cLine) (hK : X.K = K := by rfl) : OpR X (compareOp .Eq) (rEqM K) := by
  subst hK
  intro pins s σ H x y v u Q I rx ry h
  obtain ⟨d, e, hd, he, sd, se, q⟩ := h
  obtain ⟨as, r1⟩ := Dp.reads I d x v hd rx
  obtain ⟨bs, r2⟩ := Dp.reads I e y u he ry
  exact SeqAt.eq_plain r1 r2 sd se.pl (by have := se.dp; omega) ⟨.bl _, H, I, rfl, q⟩
/-- <= of alike data -/
def rLeD (K : PySem.W.Frag) : R2 := fun x y H Q => ∃ d e, Dp K H x d ∧ Dp K H y e ∧ PySem.W.alike d e = true ∧ d ≠ .none ∧ Flt e ∧ ∀ b, Q (.bl b) H
theorem op_leD (K : PySem.W.Frag) (hu : X.A.units + 64 < cLine) (hK : X.K = K := by rfl) : OpR X (compareOp .LtE) (rLeD K) := by
  subst hK
  intro pins s σ H x y v u Q I rx ry h
  obtain ⟨d, e, hd, he, al, nn, se, q⟩ := h
  obtain ⟨as, r1⟩ := Dp.reads I d x v hd rx
  obtain ⟨bs, r2⟩ := Dp.reads I e y u he ry
  exact PySem.W.le_data r1 r2 al nn (by have := se.dp; omega) ⟨.bl _, H, I, rfl, q _⟩
end
end XS

namespace XS
open PySem PySem.Spec PyProof.Rows L2
/-! ### simple statements in their form -/
abbrev tT : Stm := .con true []
abbrev tF : Stm := .con false []
theorem tru_tT (f : Str → Int) : tru f tT = true := rfl
theorem tru_tF (f : Str → Int) : tru f tF = false := rfl
theorem tru_con (f : Str → Int) (o : Bool) (l : List Stm) : tru f (.con o l) = if o = true then l.all (tru f) else l.any (tru f) := by
  show (if o = true then truAll f l else truAny f l) = _
  rw [truAll_eq, truAny_eq]
/-- numbers at most N -/
def Bs (N : Nat) (s : Sm) : Prop := s.1.natAbs ≤ N ∧ ∀ p ∈ s.2, p.2.natAbs ≤ N
theorem Bs.mono {N M : Nat} {s : Sm} (b : Bs N s) (h : N ≤ M) : Bs M s := ⟨Nat.le_trans b.1 h, fun p hp => Nat.le_trans (b.2 p hp) h⟩
/-- a sum of names nm, with parts -/
structure SO (nm : List Str) (N : Nat) (s : Sm) : Prop where
  no : Norm s.2
  sub : ∀ p ∈ s.2, p.1 ∈ nm
  ne : s.2 ≠ []
  bd : Bs N s
  sh : ∀ p ∈ s.2, p.2.natAbs < 2 ^ 30
/-- a goes in its form -/
structure GO (nm : List Str) (N : Nat) (m : Int) (s : Sm) : Prop where
  no : Norm s.2
  sub : ∀ p ∈ s.2, p.1 ∈ nm
  ne : s.2 ≠ []
  m2 : 2 ≤ m
  mN : m.natAbs ≤ N
  n0 : 0 ≤ s.1
  n1 : s.1 < m
  pm : ∀ p ∈ s.2, 0 < p.2 ∧ p.2 < m
theorem SO.mono {nm : List Str} {N M : Nat} {s : Sm} (h : SO nm N s) (l : N ≤ M) : SO nm M s := ⟨h.no, h.sub, h.ne, h.bd.mono l, h.sh⟩
theorem GO.mono {nm : List Str} {N M : Nat} {m : Int} {s : Sm} (h : GO nm N m s) (l : N ≤ M) : GO nm M m s := ⟨h.no, h.sub, h.ne, h.m2, Nat.le_trans h.mN l, h.n0, h.n1, h.pm⟩
theorem GO.bs {nm : List Str} {N : Nat} {m : Int} {s : Sm} (h : GO nm N m s) : Bs N s := by
  have := h.mN
  have := h.n0
  have := h.n1
  refine ⟨by omega, fun p hp => ?_⟩
  have := h.pm p hp
  omega
inductive Atom (nm : List Str) (N : Nat) : Stm → Prop
  | above {s : Sm} : SO nm N s → Atom nm N (.above s)
  | nought {s : Sm} : SO nm N s → Atom nm N (.nought s)
  | goes {m : Int} {s : Sm} : GO nm N m s → Atom nm N (.goes m s)
  | nn {s : Sm} : SO nm N s → Atom nm N (.neg (.nought s))
  | ng {m : Int} {s : Sm} : GO nm N m s → Atom nm N (.neg (.goes m s))
theorem Atom.mono {nm : List Str} {N M : Nat} {a : Stm} (h : Atom nm N a) (l : N ≤ M) : Atom nm M a := by
  cases h with
  | above h => exact .above (h.mono l)
  | nought h => exact .nought (h.mono l)
  | goes h => exact .goes (h.mono l)
  | nn h => exact .nn (h.mono l)
  | ng h => exact .ng (h.mono l)
/-- TRUE, FALSE, or a simple statement -/
def Fmd (p : Stm → Prop) (b : Stm) : Prop := b = tT ∨ b = tF ∨ p b
/-! ### shares divided -/
def gcdP (n : Nat) (ps : List Pr) : Nat := ps.foldl (fun g p => Nat.gcd g p.2.natAbs) n
theorem gcdP_cons (n : Nat) (p : Pr) (ps : List Pr) : gcdP n (p :: ps) = gcdP (Nat.gcd n p.2.natAbs) ps := rfl
theorem gcdP_app (n : Nat) (ps : List Pr) (p : Pr) : gcdP n (ps ++ [p]) = Nat.gcd (gcdP n ps) p.2.natAbs := by
  unfold gcdP
  rw [List.foldl_append]
  rfl
theorem gcdP_dvd : ∀ (ps : List Pr) (n : Nat), gcdP n ps ∣ n ∧ ∀ p ∈ ps, gcdP n ps ∣ p.2.natAbs
  | [], n => ⟨Nat.dvd_refl _, fun p hp => by cases hp⟩
  | q :: ps, n => by
    obtain ⟨h1, h2⟩ := gcdP_dvd ps (Nat.gcd n q.2.natAbs)
    rw [gcdP_cons]
    refine ⟨Nat.dvd_trans h1 (Nat.gcd_dvd_left _ _), fun p hp => ?_⟩
    rcases List.mem_cons.mp hp with rfl | hp
    · exact Nat.dvd_trans h1 (Nat.gcd_dvd_right _ _)
    · exact h2 p hp
/-- what goes into all goes into it -/
theorem gcdP_max : ∀ (ps : List Pr) (n k : Nat), k ∣ n → (∀ p ∈ ps, k ∣ p.2.natAbs) → k ∣ gcdP n ps
  | [], _, _, h, _ => h
  | q :: ps, n, k, h, g => by
    rw [gcdP_cons]
    exact gcdP_max ps _ k (Nat.dvd_gcd h (g q (List.mem_cons_self ..))) fun p hp => g p (List.mem_cons_of_mem _ hp)
theorem gcdP_pos {n : Nat} {ps : List Pr} (h : 0 < n ∨ ∃ p ∈ ps, p.2 ≠ 0) : 0 < gcdP n ps := by
  obtain ⟨h1, h2⟩ := gcdP_dvd ps n
  rcases h with h | ⟨p, hp, h⟩
  · exact Nat.pos_of_dvd_of_pos h1 h
  · exact Nat.pos_of_dvd_of_pos (h2 p hp) (by omega)
theorem idvd {g : Nat} {i : Int} (h : g ∣ i.natAbs) : (g : Int) ∣ i := Int.ofNat_dvd_left.mpr h
/-- all shares divided by a number -/
def divP (b : Int) (ps : List Pr) : List Pr := ps.map fun p => (p.1, p.2 / b)
theorem divP_names (b : Int) (ps : List Pr) : (divP b ps).map (·.1) = ps.map (·.1) := by
  unfold divP
  rw [List.map_map]
  rfl
theorem divP_dot {b : Int} {ps : List Pr} (h : ∀ p ∈ ps, b ∣ p.2) (f : Str → Int) : dot f ps = b * dot f (divP b ps) := by
  induction ps with
  | nil => rw [dot_nil]; show (0 : Int) = b * 0; rw [Int.mul_zero]
  | cons p ps ih =>
    show dot f (p :: ps) = b * dot f ((p.1, p.2 / b) :: divP b ps)
    rw [dot_cons, dot_cons, ih fun q hq => h q (List.mem_cons_of_mem _ hq), Int.mul_add, ← Int.mul_assoc, Int.mul_ediv_cancel' (h p (List.mem_cons_self ..))]
theorem divP_norm {b : Int} {ps : List Pr} (n : Norm ps) (h : ∀ p ∈ ps, b ∣ p.2) : Norm (divP b ps) where
  rise := by rw [divP_names]; exact n.rise
  nz := fun q hq => by
    obtain ⟨p, hp, rfl⟩ := List.mem_map.mp hq
    intro e
    have := Int.mul_ediv_cancel' (h p hp)
    have e' : p.2 / b = 0 := e
    rw [e', Int.mul_zero] at this
    exact n.nz p hp this.symm
theorem div_abs {a b : Int} (h : b ∣ a) : (a / b).natAbs ≤ a.natAbs := by
  obtain ⟨c, rfl⟩ := h
  by_cases hb : b = 0
  · subst hb; simp
  · rw [Int.mul_ediv_cancel_left _ hb, Int.natAbs_mul]
    exact Nat.le_mul_of_pos_left _ (by omega)
theorem divP_so {nm : List Str} {N : Nat} {b n n' : Int} {ps : List Pr} (h : SO nm N (n, ps)) (d : ∀ p ∈ ps, b ∣ p.2) (hn : n'.natAbs ≤ N) : SO nm N (n', divP b ps) where
  no := divP_norm h.no d
  sub := fun q hq => by
    obtain ⟨p, hp, rfl⟩ := List.mem_map.mp hq
    exact h.sub p hp
  ne := fun e => h.ne (List.map_eq_nil_iff.mp e)
  bd := ⟨hn, fun q hq => by
    obtain ⟨p, hp, rfl⟩ := List.mem_map.mp hq
    exact Nat.le_trans (div_abs (d p hp)) (h.bd.2 p hp)⟩
  sh := fun q hq => by
    obtain ⟨p, hp, rfl⟩ := List.mem_map.mp hq
    exact Nat.lt_of_le_of_lt (div_abs (d p hp)) (h.sh p hp)
theorem above_div {b n x : Int} (hb : 0 < b) : decide (0 < n + b * x) = decide (0 < -(-n / b) + x) := by
  rw [decide_eq_decide]
  have h1 := Int.mul_ediv_add_emod (-n) b
  have h2 := Int.emod_nonneg (-n) (by omega : b ≠ 0)
  have h3 := Int.emod_lt_of_pos (-n) hb
  generalize -n / b = q at h1 ⊢
  generalize -n % b = r at h1 h2 h3
  constructor
  · intro h
    have h4 : b * q < b * x := by
      have : b * q + r = -n := h1
      omega
    have := Int.lt_of_mul_lt_mul_left h4 (by omega)
    omega
  · intro h
    have h4 : q + 1 ≤ x := by omega
    have h5 : b * (q + 1) ≤ b * x := Int.mul_le_mul_of_nonneg_left h4 (by omega)
    rw [Int.mul_add, Int.mul_one] at h5
    omega
theorem ceil_abs {b n : Int} (hb : 0 < b) : (-(-n / b)).natAbs ≤ n.natAbs := by
  have h1 := Int.mul_ediv_add_emod (-n) b
  have h2 := Int.emod_nonneg (-n) (by omega : b ≠ 0)
  have h3 := Int.emod_lt_of_pos (-n) hb
  generalize -n / b = q at h1 ⊢
  generalize -n % b = r at h1 h2 h3
  rcases Int.lt_or_le 0 q with hq | hq
  · have : 1 * q ≤ b * q := Int.mul_le_mul_of_nonneg_right (by omega) (by omega)
    omega
  · have : b * q ≤ 1 * q := Int.mul_le_mul_of_nonpos_right (by omega) hq
    rcases Int.lt_or_le q 0 with h4 | h4
    · have h5 : b * q ≤ b * (-1) := Int.mul_le_mul_of_nonneg_left (by omega) (by omega)
      have h6 : (b - 1) * (q + 1) ≤ 0 := Int.mul_nonpos_of_nonneg_of_nonpos (by omega) (by omega)
      have h7 : (b - 1) * (q + 1) = b * q + b - q - 1 := by
        rw [Int.sub_mul, Int.mul_add, Int.mul_one, Int.one_mul]; omega
      omega
    · omega
end XS

namespace XS
open PySem PySem.Spec PyProof.Rows L2
theorem nought_div {b n x : Int} (hb : b ≠ 0) (h : b ∣ n) : decide (n + b * x = 0) = decide (n / b + x = 0) := by
  rw [decide_eq_decide]
  obtain ⟨c, rfl⟩ := h
  rw [Int.mul_ediv_cancel_left _ hb, ← Int.mul_add]
  constructor
  · intro h
    rcases Int.mul_eq_zero.mp h with h | h
    · exact absurd h hb
    · exact h
  · intro h
    rw [h, Int.mul_zero]
theorem nought_no {b n x : Int} (h : ¬ b ∣ n) : decide (n + b * x = 0) = false := decide_eq_false fun e => h ⟨-x, by rw [Int.mul_neg]; omega⟩
/-- c has a contrary modulo d -/
def Un (d c : Int) : Prop := ∃ e, d ∣ c * e - 1
theorem un_mul {d c y : Int} (u : Un d c) : d ∣ y * c ↔ d ∣ y := by
  constructor
  · intro h
    obtain ⟨e, k, hk⟩ := u
    obtain ⟨j, hj⟩ := h
    refine ⟨j * e - k * y, ?_⟩
    rw [Int.mul_sub, ← Int.mul_assoc, ← hj, ← Int.mul_assoc, ← hk, Int.sub_mul, Int.one_mul, Int.mul_assoc, Int.mul_comm y (c * e)]
    omega
  · rintro ⟨j, rfl⟩
    exact ⟨j * c, by rw [Int.mul_assoc]⟩
theorem un_one (d : Int) : Un d 1 := ⟨1, 0, by simp⟩
theorem un_neg1 (d : Int) : Un d (-1) := ⟨-1, 0, by simp⟩
theorem un_of {d c e : Int} (h : (c * e) % d = 1 % d) : Un d c := ⟨e, Int.dvd_of_emod_eq_zero (Int.emod_eq_emod_iff_emod_sub_eq_zero.mp h)⟩
theorem mod_iff {d x y : Int} (h : d ∣ x - y) : x % d = 0 ↔ y % d = 0 := by
  have e1 : x - (x - y) = y := by omega
  have e2 : x - y + y = x := by omega
  constructor
  · intro e
    have := Int.dvd_sub (Int.dvd_of_emod_eq_zero e) h
    rw [e1] at this
    exact Int.emod_eq_zero_of_dvd this
  · intro e
    have := Int.dvd_add h (Int.dvd_of_emod_eq_zero e)
    rw [e2] at this
    exact Int.emod_eq_zero_of_dvd this
theorem mod_dvd {d x y : Int} (h : d ∣ x - y) : decide (x % d = 0) = decide (y % d = 0) := by
  rw [decide_eq_decide, mod_iff h]
theorem goes_div {b d n x : Int} (hb : b ≠ 0) (h : b ∣ n) : decide ((n + b * x) % (b * d) = 0) = decide ((n / b + x) % d = 0) := by
  obtain ⟨c, rfl⟩ := h
  rw [Int.mul_ediv_cancel_left _ hb, ← Int.mul_add, decide_eq_decide]
  constructor
  · intro h
    obtain ⟨k, hk⟩ := Int.dvd_of_emod_eq_zero h
    refine Int.emod_eq_zero_of_dvd ⟨k, ?_⟩
    rw [Int.mul_assoc] at hk
    exact Int.eq_of_mul_eq_mul_left hb hk
  · intro h
    obtain ⟨k, hk⟩ := Int.dvd_of_emod_eq_zero h
    exact Int.emod_eq_zero_of_dvd ⟨k, by rw [hk, Int.mul_assoc]⟩
theorem goes_no {b m n x : Int} (hm : b ∣ m) (h : ¬ b ∣ n) : decide ((n + b * x) % m = 0) = false := decide_eq_false fun e => h (by
  have h1 := Int.dvd_trans hm (Int.dvd_of_emod_eq_zero e)
  have h2 := Int.dvd_sub h1 (Int.dvd_mul_right b x)
  have e2 : n + b * x - b * x = n := by omega
  rw [e2] at h2
  exact h2)
/-- shares by their rests, none nought -/
def redP (d : Int) (ps : List Pr) : List Pr := (ps.map fun p => (p.1, p.2 % d)).filter fun p => decide (p.2 ≠ 0)
theorem redP_dot {d : Int} (ps : List Pr) (f : Str → Int) : d ∣ dot f ps - dot f (redP d ps) := by
  unfold redP
  rw [filter_dot]
  induction ps with
  | nil => exact ⟨0, by simp [dot_nil]⟩
  | cons p ps ih =>
    rw [List.map_cons, dot_cons, dot_cons]
    obtain ⟨k, hk⟩ := ih
    refine ⟨p.2 / d * f p.1 + k, ?_⟩
    have h1 := Int.mul_ediv_add_emod p.2 d
    have e : p.2 * f p.1 - (p.2 % d) * f p.1 = d * (p.2 / d * f p.1) := by
      rw [← Int.sub_mul, ← Int.mul_assoc]
      congr 1
      omega
    rw [Int.mul_add, ← hk, ← e]
    show p.2 * f p.1 + dot f ps - (p.2 % d * f p.1 + _) = _
    omega
theorem redP_mem {d : Int} {ps : List Pr} (hd : 0 < d) {q : Pr} (h : q ∈ redP d ps) : 0 < q.2 ∧ q.2 < d ∧ q.1 ∈ ps.map (·.1) := by
  obtain ⟨h1, h2⟩ := List.mem_filter.mp h
  obtain ⟨p, hp, rfl⟩ := List.mem_map.mp h1
  have h3 := Int.emod_nonneg p.2 (by omega : d ≠ 0)
  have h4 := Int.emod_lt_of_pos p.2 hd
  have h5 : p.2 % d ≠ 0 := by simpa using h2
  exact ⟨by show 0 < p.2 % d; omega, h4, List.mem_map.mpr ⟨p, hp, rfl⟩⟩
theorem redP_rise {d : Int} {ps : List Pr} (h : Rising (ps.map (·.1))) : Rising ((redP d ps).map (·.1)) := by
  have e : (ps.map fun p => (p.1, p.2 % d)).map (·.1) = ps.map (·.1) := by rw [List.map_map]; rfl
  have s : ((redP d ps).map (·.1)).Sublist ((ps.map fun p => (p.1, p.2 % d)).map (·.1)) := (List.filter_sublist).map _
  rw [e] at s
  exact List.Pairwise.sublist s h
theorem redP_ne {d : Int} {ps : List Pr} (h : ∃ p ∈ ps, ¬ d ∣ p.2) : redP d ps ≠ [] := by
  obtain ⟨p, hp, h⟩ := h
  intro e
  have := List.filter_eq_nil_iff.mp e (p.1, p.2 % d) (List.mem_map.mpr ⟨p, hp, rfl⟩)
  apply h
  exact Int.dvd_of_emod_eq_zero (by simpa using this)
/-- shares times a number, by their rests -/
def mulP (c d : Int) (ps : List Pr) : List Pr := ps.map fun p => (p.1, p.2 * c % d)
theorem mulP_dot {c d : Int} (ps : List Pr) (f : Str → Int) : d ∣ dot f ps * c - dot f (mulP c d ps) := by
  unfold mulP
  induction ps with
  | nil => exact ⟨0, by simp [dot_nil]⟩
  | cons p ps ih =>
    rw [List.map_cons, dot_cons, dot_cons]
    obtain ⟨k, hk⟩ := ih
    refine ⟨p.2 * c / d * f p.1 + k, ?_⟩
    have h1 := Int.mul_ediv_add_emod (p.2 * c) d
    have e : p.2 * c * f p.1 - (p.2 * c % d) * f p.1 = d * (p.2 * c / d * f p.1) := by
      rw [← Int.sub_mul, ← Int.mul_assoc]
      congr 1
      omega
    have e2 : (p.2 * f p.1 + dot f ps) * c = p.2 * c * f p.1 + dot f ps * c := by
      rw [Int.add_mul, Int.mul_assoc, Int.mul_comm (f p.1) c, ← Int.mul_assoc]
    rw [Int.mul_add, ← hk, ← e, e2]
    show _ - (p.2 * c % d * f p.1 + _) = _
    omega
theorem mulP_names (c d : Int) (ps : List Pr) : (mulP c d ps).map (·.1) = ps.map (·.1) := by
  unfold mulP
  rw [List.map_map]
  rfl
theorem mul_go {nm : List Str} {N : Nat} {c d n : Int} {ps : List Pr} (u : Un d c) (h2 : 2 ≤ d) (hN : d.natAbs ≤ N) (rs : Rising (ps.map (·.1))) (sub : ∀ p ∈ ps, p.1 ∈ nm) (ne : ps ≠ []) (pm : ∀ p ∈ ps, 0 < p.2 ∧ p.2 < d) : GO nm N d (n * c % d, mulP c d ps) := by
  have key : ∀ q ∈ mulP c d ps, 0 < q.2 ∧ q.2 < d := fun q hq => by
    obtain ⟨p, hp, rfl⟩ := List.mem_map.mp hq
    have h3 := Int.emod_nonneg (p.2 * c) (by omega : d ≠ 0)
    have h4 := Int.emod_lt_of_pos (p.2 * c) (by omega : 0 < d)
    refine ⟨?_, h4⟩
    show 0 < p.2 * c % d
    have h5 : p.2 * c % d ≠ 0 := fun e => by
      obtain ⟨k, hk⟩ := (un_mul u).mp (Int.dvd_of_emod_eq_zero e)
      have := pm p hp
      rcases Int.lt_or_le k 1 with h6 | h6
      · have : d * k ≤ d * 0 := Int.mul_le_mul_of_nonneg_left (by omega) (by omega)
        omega
      · have : d * 1 ≤ d * k := Int.mul_le_mul_of_nonneg_left h6 (by omega)
        omega
    omega
  refine ⟨⟨by rw [mulP_names]; exact rs, fun q hq => by have := key q hq; omega⟩, fun q hq => ?_, fun e => ne (List.map_eq_nil_iff.mp e), h2, hN, Int.emod_nonneg _ (by omega), Int.emod_lt_of_pos _ (by omega), key⟩
  obtain ⟨p, hp, rfl⟩ := List.mem_map.mp hq
  exact sub p hp
/-- goes in its form says the same -/
theorem goes_form {b d n c : Int} {ps : List Pr} (hb : b ≠ 0) (hn : b ∣ n) (hp : ∀ p ∈ ps, b ∣ p.2) (u : Un d c) (f : Str → Int) :
    tru f (.goes d (n / b * c % d, mulP c d (redP d (divP b ps)))) = tru f (.goes (b * d) (n, ps)) := by
  show decide ((n / b * c % d + dot f (mulP c d (redP d (divP b ps)))) % d = 0) = decide ((n + dot f ps) % (b * d) = 0)
  rw [divP_dot hp, goes_div hb hn]
  obtain ⟨k1, h1⟩ := redP_dot (d := d) (divP b ps) f
  obtain ⟨k2, h2⟩ := mulP_dot (c := c) (d := d) (redP d (divP b ps)) f
  generalize dot f (mulP c d (redP d (divP b ps))) = z at h2 ⊢
  generalize dot f (redP d (divP b ps)) = y at h1 h2
  generalize dot f (divP b ps) = x at h1 ⊢
  generalize n / b = q
  have e1 : decide ((q + x) % d = 0) = decide (((q + x) * c) % d = 0) := by
    rw [decide_eq_decide]
    exact ⟨fun h => Int.emod_eq_zero_of_dvd ((un_mul u).mpr (Int.dvd_of_emod_eq_zero h)), fun h => Int.emod_eq_zero_of_dvd ((un_mul u).mp (Int.dvd_of_emod_eq_zero h))⟩
  rw [e1]
  refine mod_dvd ⟨-(q * c / d) - k2 - k1 * c, ?_⟩
  have h3 := Int.mul_ediv_add_emod (q * c) d
  have e3 : (q + x) * c = q * c + x * c := Int.add_mul ..
  have e4 : x * c = y * c + d * (k1 * c) := by
    have : x = y + d * k1 := by omega
    rw [this, Int.add_mul, Int.mul_assoc]
  rw [e3, e4, Int.mul_sub, Int.mul_sub, Int.mul_neg]
  omega
/-- where all shares go into, some share is not nought modulo what is left -/
theorem small_ne {m : Int} {ps : List Pr} {g : Nat} {d : Int} (hg : g = gcdP m.natAbs ps) (hm : m = g * d) (hd : 2 ≤ d) (hm0 : 0 < m) : redP d (divP g ps) ≠ [] := by
  apply redP_ne
  by_cases h : ∃ p ∈ divP g ps, ¬ d ∣ p.2
  · exact h
  · exfalso
    have h' : ∀ p ∈ divP (g : Int) ps, d ∣ p.2 := fun p hp => Classical.byContradiction fun c => h ⟨p, hp, c⟩
    obtain ⟨d1, d2⟩ := gcdP_dvd ps m.natAbs
    have g0 : 0 < g := by rw [hg]; exact gcdP_pos (.inl (by omega))
    have big : g * d.natAbs ∣ gcdP m.natAbs ps := by
      refine gcdP_max ps _ _ ?_ fun p hp => ?_
      · have : m.natAbs = g * d.natAbs := by rw [hm, Int.natAbs_mul]; rfl
        rw [this]
        exact Nat.dvd_refl _
      · have h1 := h' (p.1, p.2 / g) (List.mem_map.mpr ⟨p, hp, rfl⟩)
        have h2 : (g : Int) ∣ p.2 := idvd (by rw [hg]; exact d2 p hp)
        have e : p.2 = g * (p.2 / g) := (Int.mul_ediv_cancel' h2).symm
        have : p.2.natAbs = g * (p.2 / g).natAbs := by
          have := congrArg Int.natAbs e
          rw [Int.natAbs_mul] at this
          exact this
        rw [this]
        exact Nat.mul_dvd_mul_left g (Int.natAbs_dvd_natAbs.mpr h1)
    rw [← hg] at big
    have := Nat.le_of_dvd g0 big
    have h3 : g * 2 ≤ g * d.natAbs := Nat.mul_le_mul_left g (by omega)
    omega
/-! ### contraries -/
def negP (ps : List Pr) : List Pr := ps.map fun p => (p.1, -p.2)
theorem negP_dot (ps : List Pr) (f : Str → Int) : dot f (negP ps) = - dot f ps := by
  unfold negP
  induction ps with
  | nil => rfl
  | cons p ps ih =>
    rw [List.map_cons, dot_cons, dot_cons, ih]
    show -p.2 * f p.1 + _ = _
    rw [Int.neg_mul]
    omega
theorem negP_names (ps : List Pr) : (negP ps).map (·.1) = ps.map (·.1) := by
  unfold negP
  rw [List.map_map]
  rfl
theorem negP_so {nm : List Str} {N : Nat} {n n' : Int} {ps : List Pr} (h : SO nm N (n, ps)) (hn : n'.natAbs ≤ N + 1) : SO nm (N + 1) (n', negP ps) where
  no := ⟨by rw [negP_names]; exact h.no.rise, fun q hq => by
    obtain ⟨p, hp, rfl⟩ := List.mem_map.mp hq
    have := h.no.nz p hp
    show -p.2 ≠ 0
    omega⟩
  sub := fun q hq => by
    obtain ⟨p, hp, rfl⟩ := List.mem_map.mp hq
    exact h.sub p hp
  ne := fun e => h.ne (List.map_eq_nil_iff.mp e)
  bd := ⟨hn, fun q hq => by
    obtain ⟨p, hp, rfl⟩ := List.mem_map.mp hq
    have := h.bd.2 p hp
    show (-p.2).natAbs ≤ _
    omega⟩
  sh := fun q hq => by
    obtain ⟨p, hp, rfl⟩ := List.mem_map.mp hq
    have := h.sh p hp
    show (-p.2).natAbs < _
    omega
/-- the contrary of a simple statement -/
def conS : Stm → Stm
  | .above s => .above (1 - s.1, negP s.2)
  | .nought s => .neg (.nought s)
  | .goes m s => if m = 2 then .goes 2 (1 - s.1, s.2) else .neg (.goes m s)
  | .neg a => a
  | a => a
theorem conS_ok {nm : List Str} {N : Nat} {a : Stm} (h : Atom nm N a) : Atom nm (N + 1) (conS a) ∧ ∀ f, tru f (conS a) = !tru f a := by
  cases h with
  | @above s h =>
    refine ⟨.above (negP_so (n := s.1) h (by have := h.bd.1; omega)), fun f => ?_⟩
    show decide (0 < 1 - s.1 + dot f (negP s.2)) = !decide (0 < s.1 + dot f s.2)
    rw [negP_dot, ← decide_not, decide_eq_decide]
    omega
  | nought h => exact ⟨.nn (h.mono (Nat.le_succ _)), fun f => rfl⟩
  | @goes m s h =>
    show Atom nm (N + 1) (if m = 2 then _ else _) ∧ ∀ f, tru f (if m = 2 then _ else _) = _
    by_cases e : m = 2
    · subst e
      rw [if_pos rfl]
      refine ⟨.goes ⟨h.no, h.sub, h.ne, by decide, Nat.le_succ_of_le h.mN, ?_, ?_, h.pm⟩, fun f => ?_⟩
      · have := h.n0; have := h.n1; show 0 ≤ 1 - s.1; omega
      · have := h.n0; have := h.n1; show 1 - s.1 < 2; omega
      · show decide ((1 - s.1 + dot f s.2) % 2 = 0) = !decide ((s.1 + dot f s.2) % 2 = 0)
        rw [← decide_not, decide_eq_decide]
        have := h.n0; have := h.n1
        omega
    · rw [if_neg e]
      exact ⟨.ng (h.mono (Nat.le_succ _)), fun f => rfl⟩
  | nn h => exact ⟨.nought (h.mono (Nat.le_succ _)), fun f => (Bool.not_not _).symm⟩
  | ng h => exact ⟨.goes (h.mono (Nat.le_succ _)), fun f => (Bool.not_not _).symm⟩
end XS

namespace XS
open PySem PySem.Spec PyProof.Rows L2
/-! ### the contrary of a number modulo another: Euclid's way -/
/-- where the way stands: rest, other, before, factor -/
structure Euc (k m r o b f : Int) : Prop where
  o0 : 0 ≤ o
  ro : o < r ∨ (o = 0 ∧ 0 < r) ∨ (r = m ∧ o < m ∧ 0 < r)
  d1 : m ∣ b * k - r
  d2 : m ∣ f * k - o
  g : Int.gcd r o = Int.gcd m k
  sg : ∃ e : Int, (e = 1 ∨ e = -1) ∧ 0 ≤ e * f ∧ e * b ≤ 0 ∧ r * (e * f) - o * (e * b) = m
theorem Euc.rpos {k m r o b f : Int} (E : Euc k m r o b f) : 0 < r := by
  have := E.o0
  rcases E.ro with h | h | h <;> omega
theorem Euc.small {k m r o b f : Int} (E : Euc k m r o b f) (hm : 0 < m) : f.natAbs ≤ m.natAbs ∧ r ≤ m + r := by
  obtain ⟨e, he, h1, h2, h3⟩ := E.sg
  have hr := E.rpos
  have ho := E.o0
  have h4 : o * (e * b) ≤ 0 := Int.mul_nonpos_of_nonneg_of_nonpos ho h2
  have h5 : 1 * (e * f) ≤ r * (e * f) := Int.mul_le_mul_of_nonneg_right (by omega) h1
  have h6 : e * f ≤ m := by omega
  refine ⟨?_, by omega⟩
  rcases he with rfl | rfl
  · rw [Int.one_mul] at h1 h6
    omega
  · rw [Int.neg_one_mul] at h1 h6
    omega
theorem euc_start {k m : Int} (hm : 0 < m) : Euc k m m (k % m) 0 1 where
  o0 := Int.emod_nonneg _ (by omega)
  ro := .inr (.inr ⟨rfl, Int.emod_lt_of_pos _ hm, hm⟩)
  d1 := ⟨-1, by omega⟩
  d2 := ⟨k / m, by have := Int.mul_ediv_add_emod k m; omega⟩
  g := by
    have h := Int.gcd_add_mul_left_right m (k % m) (k / m)
    have e : k % m + m * (k / m) = k := by have := Int.mul_ediv_add_emod k m; omega
    rw [e] at h
    exact h.symm
  sg := ⟨1, .inl rfl, by decide, by decide, by simp⟩
theorem euc_step {k m r o b f : Int} (E : Euc k m r o b f) (h : o ≠ 0) : Euc k m o (r - r / o * o) f (b - r / o * f) ∧ 0 < o ∧ (r - r / o * o).natAbs < o.natAbs := by
  have h0 := E.o0
  have hr := E.rpos
  have e : r - r / o * o = r % o := by have := Int.mul_ediv_add_emod r o; rw [Int.mul_comm o] at this; omega
  have h1 := Int.emod_nonneg r h
  have h2 := Int.emod_lt_of_pos r (by omega : 0 < o)
  refine ⟨⟨by omega, .inl (by omega), E.d2, ?_, ?_, ?_⟩, by omega, by omega⟩
  · obtain ⟨x, hx⟩ := E.d1
    obtain ⟨y, hy⟩ := E.d2
    refine ⟨x - r / o * y, ?_⟩
    have e1 : (b - r / o * f) * k = b * k - r / o * (f * k) := by rw [Int.sub_mul, Int.mul_assoc]
    have e2 : m * (x - r / o * y) = m * x - r / o * (m * y) := by
      rw [Int.mul_sub, ← Int.mul_assoc, ← Int.mul_assoc, Int.mul_comm m (r / o)]
    have e3 : r / o * (f * k - o) = r / o * (f * k) - r / o * o := Int.mul_sub ..
    rw [e1, e2, ← hx, ← hy, e3]
    omega
  · have h3 := Int.gcd_add_mul_left_right o (r - r / o * o) (r / o)
    have e4 : r - r / o * o + o * (r / o) = r := by rw [Int.mul_comm o]; omega
    rw [e4, Int.gcd_comm, E.g] at h3
    exact h3.symm
  · obtain ⟨s, hs, h3, h4, h5⟩ := E.sg
    have hq : 0 ≤ r / o := Int.ediv_nonneg (by omega) (by omega)
    have h6 : 0 ≤ r / o * (s * f) := Int.mul_nonneg hq h3
    have e5 : s * (b - r / o * f) = s * b - r / o * (s * f) := by rw [Int.mul_sub, ← Int.mul_assoc, ← Int.mul_assoc, Int.mul_comm s (r / o)]
    refine ⟨-s, by omega, ?_, ?_, ?_⟩
    · rw [Int.neg_mul, e5]
      omega
    · rw [Int.neg_mul]
      omega
    · rw [Int.neg_mul, Int.neg_mul, e5, ← h5]
      have e6 : o * -(s * b - r / o * (s * f)) = -(o * (s * b)) + r / o * o * (s * f) := by
        rw [Int.mul_neg, Int.mul_sub, ← Int.mul_assoc o (r / o), Int.mul_comm o (r / o)]
        omega
      have e7 : (r - r / o * o) * -(s * f) = -(r * (s * f)) + r / o * o * (s * f) := by
        rw [Int.mul_neg, Int.sub_mul]
        omega
      rw [e6, e7]
      omega
theorem euc_end {k m r b f : Int} (E : Euc k m r 0 b f) (hm : 0 < m) (h : Int.gcd k m = 1) : (k * (b % m)) % m = 1 % m := by
  have hr := E.rpos
  have g := E.g
  rw [Int.gcd_comm m k, h, Int.gcd_zero_right] at g
  have e : r = 1 := by omega
  subst e
  rw [Int.mul_emod_emod_, Int.mul_comm]
  exact Int.emod_eq_emod_iff_emod_sub_eq_zero.mpr (Int.emod_eq_zero_of_dvd E.d1)
where
  Int.mul_emod_emod_ {a b m : Int} : a * (b % m) % m = a * b % m := by
    rw [Int.mul_emod, Int.emod_emod_of_dvd _ (Int.dvd_refl m), ← Int.mul_emod]
/-- a contrary modulo m -/
def sp_inverse : Sp := fun vs H Q _ => ∃ k m : Int, vs = [.int k, .int m] ∧ 0 < m ∧ Int.gcd k m = 1 ∧ m.natAbs.log2 < 4000 ∧ ∀ H' r, Same H H' → 0 ≤ r → r < m → (k * r) % m = 1 % m → Q (.int r) H'
/-! ### trees: and, or over simple statements -/
def isCon : Stm → Bool
  | .con _ _ => true
  | _ => false
/-- at most n over one another -/
inductive Tr (p : Stm → Prop) : Nat → Stm → Prop
  | atom {a : Stm} {n : Nat} : p a → isCon a = false → Tr p n a
  | con {o : Bool} {l : List Stm} {n : Nat} : l ≠ [] → (∀ b ∈ l, Tr p n b) → Tr p (n + 1) (.con o l)
theorem Tr.mono {p : Stm → Prop} {n : Nat} {a : Stm} (h : Tr p n a) : ∀ {m : Nat}, n ≤ m → Tr p m a := by
  induction h with
  | atom h e => exact fun _ => .atom h e
  | con hl _ ih =>
    intro m hm
    obtain ⟨j, rfl⟩ : ∃ j, m = j + 1 := ⟨m - 1, by omega⟩
    exact .con hl fun b hb => ih b hb (by omega)
def FT (p : Stm → Prop) (n : Nat) (a : Stm) : Prop := a = tT ∨ a = tF ∨ Tr p n a
theorem FT.mono {p : Stm → Prop} {n m : Nat} {a : Stm} (h : FT p n a) (l : n ≤ m) : FT p m a := by
  rcases h with h | h | h
  · exact .inl h
  · exact .inr (.inl h)
  · exact .inr (.inr (h.mono l))
mutual
/-- how many simple ones -/
def lv : Stm → Nat
  | .above _ => 1
  | .nought _ => 1
  | .goes _ _ => 1
  | .neg a => lv a
  | .con _ l => lvs l
  | .bnd _ _ a => lv a
def lvs : List Stm → Nat
  | [] => 0
  | a :: l => lv a + lvs l
end
theorem lvs_app : ∀ (l m : List Stm), lvs (l ++ m) = lvs l + lvs m
  | [], m => by show lvs m = 0 + lvs m; omega
  | a :: l, m => by
    show lv a + lvs (l ++ m) = lv a + lvs l + lvs m
    rw [lvs_app l m]
    omega
theorem lv_pos {p : Stm → Prop} (hp : ∀ a, p a → 0 < lv a) {n : Nat} {a : Stm} (h : Tr p n a) : 0 < lv a := by
  induction h with
  | atom h _ => exact hp _ h
  | @con o l n hl _ ih =>
    cases l with
    | nil => exact absurd rfl hl
    | cons b l =>
      have := ih b (List.mem_cons_self ..)
      show 0 < lv b + lvs l
      omega
theorem lvs_len {p : Stm → Prop} (hp : ∀ a, p a → 0 < lv a) {n : Nat} : ∀ {l : List Stm}, (∀ b ∈ l, Tr p n b) → l.length ≤ lvs l
  | [], _ => Nat.le_refl _
  | b :: l, h => by
    have h1 := lv_pos hp (h b (List.mem_cons_self ..))
    have h2 := lvs_len hp (l := l) fun c hc => h c (List.mem_cons_of_mem _ hc)
    show l.length + 1 ≤ lv b + lvs l
    omega
theorem lv_in : ∀ {l : List Stm} {a : Stm}, a ∈ l → lv a ≤ lvs l
  | b :: l, a, h => by
    show lv a ≤ lv b + lvs l
    rcases List.mem_cons.mp h with rfl | h
    · omega
    · have := lv_in h; omega
theorem atom_lv {nm : List Str} {N : Nat} {a : Stm} (h : Atom nm N a) : 0 < lv a := by cases h <;> exact Nat.one_pos
theorem atom_lv1 {nm : List Str} {N : Nat} {a : Stm} (h : Atom nm N a) : lv a = 1 := by cases h <;> rfl
theorem atom_con {nm : List Str} {N : Nat} {a : Stm} (h : Atom nm N a) : isCon a = false := by cases h <;> rfl
/-- it settles and, or -/
def decB (o : Bool) : Stm → Bool
  | .con o' [] => o' != o
  | _ => false
theorem decB_eq {o : Bool} {a : Stm} (h : decB o a = true) : a = .con (!o) [] := by
  cases a with
  | con o' l =>
    cases l with
    | nil => cases o <;> cases o' <;> first | rfl | cases h
    | cons _ _ => cases h
  | _ => cases h
/-- what and, or joins -/
def flat1 (o : Bool) : Stm → List Stm
  | .con o' l => if o' = o then l else [.con o' l]
  | a => [a]
def wrapB (o : Bool) : List Stm → Stm
  | [x] => x
  | xs => .con o xs
def joinB (o : Bool) (l : List Stm) : Stm := if l.any (decB o) = true then .con (!o) [] else wrapB o (l.flatMap (flat1 o))
theorem wrapB_one (o : Bool) (x : Stm) : wrapB o [x] = x := rfl
theorem wrapB_not (o : Bool) {xs : List Stm} (h : xs.length ≠ 1) : wrapB o xs = .con o xs := by
  unfold wrapB
  split
  · exact absurd rfl h
  · rfl
theorem flat1_tru (o : Bool) (a : Stm) (f : Str → Int) : tru f a = if o = true then (flat1 o a).all (tru f) else (flat1 o a).any (tru f) := by
  cases a with
  | con o' l =>
    show tru f (.con o' l) = if o = true then (if o' = o then l else [.con o' l]).all (tru f) else (if o' = o then l else [.con o' l]).any (tru f)
    by_cases e : o' = o
    · subst e
      simp only [if_true]
      exact tru_con f o' l
    · rw [if_neg e]
      cases o <;> simp
  | above s => cases o <;> simp [flat1]
  | nought s => cases o <;> simp [flat1]
  | goes m s => cases o <;> simp [flat1]
  | neg a => cases o <;> simp [flat1]
  | bnd q x a => cases o <;> simp [flat1]
theorem flat_tru (o : Bool) (f : Str → Int) : ∀ l : List Stm, (if o = true then (l.flatMap (flat1 o)).all (tru f) else (l.flatMap (flat1 o)).any (tru f)) = if o = true then l.all (tru f) else l.any (tru f)
  | [] => rfl
  | a :: l => by
    have h := flat_tru o f l
    have h1 := flat1_tru o a f
    cases o with
    | true =>
      simp only [if_true] at h h1 ⊢
      rw [List.flatMap_cons, List.all_append, List.all_cons, h, h1]
    | false =>
      simp only [Bool.false_eq_true, if_false] at h h1 ⊢
      rw [List.flatMap_cons, List.any_append, List.any_cons, h, h1]
theorem joinB_tru (o : Bool) (l : List Stm) (f : Str → Int) : tru f (joinB o l) = tru f (.con o l) := by
  unfold joinB
  split
  · rename_i h
    obtain ⟨a, ha, hd⟩ := List.any_eq_true.mp h
    have e := decB_eq hd
    have ea : tru f a = !o := by rw [e]; cases o <;> rfl
    have el : tru f (.con (!o) []) = !o := by cases o <;> rfl
    rw [el, tru_con]
    cases o with
    | true =>
      have : l.all (tru f) = false := Bool.eq_false_iff.mpr fun t => by rw [List.all_eq_true.mp t a ha] at ea; cases ea
      simp [this]
    | false =>
      have : l.any (tru f) = true := List.any_eq_true.mpr ⟨a, ha, ea⟩
      simp [this]
  · have key := flat_tru o f l
    rw [tru_con, ← key]
    unfold wrapB
    split
    · rename_i x hx
      rw [hx]
      cases o <;> simp
    · rw [tru_con]
theorem flat_lv (o : Bool) : ∀ l : List Stm, lvs (l.flatMap (flat1 o)) = lvs l
  | [] => rfl
  | a :: l => by
    have e : lvs (flat1 o a) = lv a := by
      cases a with
      | con o' m =>
        show lvs (if o' = o then m else [.con o' m]) = lvs m
        split
        · rfl
        · show lvs m + 0 = lvs m; omega
      | _ => rfl
    rw [List.flatMap_cons, lvs_app, flat_lv o l, e]
    rfl
theorem joinB_lv (o : Bool) (l : List Stm) : lv (joinB o l) ≤ lvs l := by
  unfold joinB
  split
  · exact Nat.zero_le _
  · have h := flat_lv o l
    unfold wrapB
    split
    · rename_i x hx
      rw [hx] at h
      have : lvs [x] = lv x + 0 := rfl
      omega
    · show lvs _ ≤ _
      omega
theorem flat_tr {p : Stm → Prop} {n : Nat} {o : Bool} {l : List Stm} (h : ∀ a ∈ l, FT p n a) (hd : l.any (decB o) = false) : ∀ b ∈ l.flatMap (flat1 o), Tr p n b := by
  intro b hb
  obtain ⟨a, ha, hb⟩ := List.mem_flatMap.mp hb
  have nd : decB o a = false := by
    have := List.any_eq_false.mp hd a ha
    simpa using this
  rcases h a ha with rfl | rfl | h
  · cases o with
    | true => cases hb
    | false => cases nd
  · cases o with
    | true => cases nd
    | false => cases hb
  · cases h with
    | atom h e =>
      have : flat1 o a = [a] := by cases a <;> first | rfl | cases e
      rw [this] at hb
      rw [List.mem_singleton.mp hb]
      exact .atom h e
    | @con o' m n hl hm =>
      have hb' : b ∈ (if o' = o then m else [.con o' m]) := hb
      split at hb'
      · exact (hm b hb').mono (Nat.le_succ _)
      · rw [List.mem_singleton.mp hb']
        exact .con hl hm
theorem joinB_ft {p : Stm → Prop} {n : Nat} {o : Bool} {l : List Stm} (h : ∀ a ∈ l, FT p n a) : FT p (n + 1) (joinB o l) := by
  unfold joinB
  split
  · cases o
    · exact .inl rfl
    · exact .inr (.inl rfl)
  · rename_i hd
    have hd' : l.any (decB o) = false := by simpa using hd
    have ht := flat_tr h hd'
    unfold wrapB
    split
    · rename_i x hx
      exact .inr (.inr ((ht x (by rw [hx]; exact List.mem_cons_self ..)).mono (Nat.le_succ _)))
    · cases e : l.flatMap (flat1 o) with
      | nil => cases o
               · exact .inr (.inl rfl)
               · exact .inl rfl
      | cons x xs => exact .inr (.inr (.con (List.cons_ne_nil _ _) (by rw [← e]; exact ht)))
end XS

namespace XS
open PySem PySem.Spec PyProof.Rows L2
/-- built-in names, the more -/
structure Bl2 (mg : Str → Option Value) : Prop where
  abs : mg "abs" = none
  max : mg "max" = none
  min : mg "min" = none
/-- TRUE, FALSE, OTHER -/
structure Ct (K : PySem.W.Frag) (w : World) (mg : Str → Option Value) (aT aF aO : Addr) : Prop where
  c_TRUE : mg "TRUE" = some (.ref aT)
  c_FALSE : mg "FALSE" = some (.ref aF)
  c_OTHER : mg "OTHER" = some (.ref aO)
  d_TRUE : ∀ H, Dp K H (.ref aT) (toD tT)
  d_FALSE : ∀ H, Dp K H (.ref aF) (toD tF)
  h_yes : ∀ o, KHas K w aO (conW o) true
  h_no : ∀ x : Str, x ∈ (["above", "nought", "goes", "not", "some", "all"] : List Str) → KHas K w aO x false
  get : ∀ o, KDct K w aO (conW o) (.str (conW (!o)))
theorem Ct.has {K : PySem.W.Frag} {w : World} {mg : Str → Option Value} {aT aF aO : Addr} (c : Ct K w mg aT aF aO) (a : Stm) : KHas K w aO (headW a) (isCon a) := by
  cases a with
  | above _ => exact c.h_no "above" (by decide +kernel)
  | nought _ => exact c.h_no "nought" (by decide +kernel)
  | goes _ _ => exact c.h_no "goes" (by decide +kernel)
  | neg _ => exact c.h_no "not" (by decide +kernel)
  | con o l => exact c.h_yes o
  | bnd o x c' =>
    cases o
    · exact c.h_no "some" (by decide +kernel)
    · exact c.h_no "all" (by decide +kernel)
section
variable {K : PySem.W.Frag} {w : World} {H : Hp} {Q : VK} {p q : Addr} {x : Str} {b : Bool} {v : V}
theorem x_kin (h : KHas K w p x b) (k : Q (.bl b) H) : rKIn K w false (.str x) (.ref p) H Q := ⟨p, x, b, rfl, rfl, h, k⟩
theorem x_knin (h : KHas K w p x b) (k : Q (.bl (!b)) H) : rKIn K w true (.str x) (.ref p) H Q := ⟨p, x, b, rfl, rfl, h, k⟩
theorem x_kget (h : KDct K w p x v) (k : Q v H) : rIxD K w (.ref p) (.str x) H Q := ⟨p, x, v, rfl, rfl, h, k⟩
theorem x_gcd {a b : Int} (k : Q (.int (Int.gcd a b : Int)) H) : rGcd [.int a, .int b] H Q := ⟨a, b, rfl, k⟩
/-- part == TRUE, FALSE -/
theorem eqv_con (o : Bool) (a : Stm) : PyData.eqv (toD a) (toD (.con o [])) = decB (!o) a := by
  have no : ∀ (x y : Str) (d e : PyData) (r : List PyData), x ≠ y → PyData.eqv (.tuple (.str x :: d :: r)) (.tuple [.str y, e]) = false := fun x y d e r h => by
    simp [PyData.eqv, PyData.eqvAll, h]
  cases a with
  | above s => exact no _ _ _ _ _ (by cases o <;> decide +kernel)
  | nought s => exact no _ _ _ _ _ (by cases o <;> decide +kernel)
  | goes m s => exact no _ _ _ _ _ (by cases o <;> decide +kernel)
  | neg a => exact no _ _ _ _ _ (by cases o <;> decide +kernel)
  | bnd q x a => exact no _ _ _ _ _ (by cases o <;> cases q <;> decide +kernel)
  | con q l =>
    by_cases e : q = o
    · subst e
      cases l with
      | nil =>
        show PyData.eqv (.tuple [.str (conW q), .tuple []]) (.tuple [.str (conW q), .tuple []]) = (q != !q)
        simp [PyData.eqv, PyData.eqvAll]
      | cons b l =>
        show PyData.eqv (.tuple [.str (conW q), .tuple (toD b :: toDs l)]) (.tuple [.str (conW q), .tuple []]) = false
        simp [PyData.eqv, PyData.eqvAll]
    · have h1 : PyData.eqv (toD (.con q l)) (toD (.con o [])) = false := no _ _ _ _ _ (by cases o <;> cases q <;> first | exact absurd rfl e | decide +kernel)
      rw [h1]
      cases l with
      | nil => cases o <;> cases q <;> first | exact absurd rfl e | rfl
      | cons _ _ => rfl
theorem plain_toD : ∀ (n : Nat) (a : Stm), dep a ≤ n → (toD a).plain = true
  | 0, a, h => by have := dep_pos a; omega
  | n + 1, a, h => by
    have two : ∀ x y : PyData, x.plain = true → y.plain = true → (PyData.tuple [x, y]).plain = true := fun x y h1 h2 => by simp [PyData.plain, PyData.plainAll, h1, h2]
    have three : ∀ x y z : PyData, x.plain = true → y.plain = true → z.plain = true → (PyData.tuple [x, y, z]).plain = true := fun x y z h1 h2 h3 => by simp [PyData.plain, PyData.plainAll, h1, h2, h3]
    have sm : ∀ s : Sm, (sumD s).plain = true := fun s => two _ _ rfl (by
      show PyData.plainAll (s.2.map prT) = true
      exact plainAll fun d hd => by
        obtain ⟨p, _, rfl⟩ := List.mem_map.mp hd
        exact two _ _ rfl rfl)
    cases a with
    | above s => exact two _ _ rfl (sm s)
    | nought s => exact two _ _ rfl (sm s)
    | goes m s => exact three _ _ _ rfl rfl (sm s)
    | neg c => exact two _ _ rfl (plain_toD n c (Nat.le_of_succ_le_succ h))
    | bnd o x c => exact three _ _ _ rfl rfl (plain_toD n c (Nat.le_of_succ_le_succ h))
    | con o l =>
      refine two _ _ rfl ?_
      rw [toDs_map]
      show PyData.plainAll (l.map toD) = true
      exact plainAll fun d hd => by
        obtain ⟨c, hc, rfl⟩ := List.mem_map.mp hd
        exact plain_toD n c (Nat.le_trans (dep_in hc) (Nat.le_of_succ_le_succ h))
theorem flt_con (o : Bool) : Flt (toD (.con o [])) := ⟨rfl, by simp [toD, toDs, PyData.depth, PyData.depthAll]⟩
theorem x_eqC {o : Bool} {a : Stm} {v : V} (h1 : Dp K H v (toD a)) (h2 : Dp K H (.ref p) (toD (.con o []))) (k : Q (.bl (decB (!o) a)) H) : rEqM K v (.ref p) H Q :=
  ⟨toD a, toD (.con o []), h1, h2, plain_toD _ a (Nat.le_refl _), flt_con o, by rw [eqv_con]; exact k⟩
end
/-! ### promises of simple.py -/
def sp_share_all (K : PySem.W.Frag) : Sp := fun vs H Q _ => ∃ (v : V) (ps : List Pr) (n : Nat), vs = [v, .int n] ∧ (Dp K H v (.tuple (ps.map prT))) ∧ Q (.int (gcdP n ps)) H
def sp_factor (K : PySem.W.Frag) : Sp := fun vs H Q _ => ∃ (v : V) (ps : List Pr) (d : Int), vs = [.int d, v] ∧ Dp K H v (.list (ps.map prT)) ∧ ps.length < 64 ∧ 2 ≤ d ∧ d.natAbs.log2 < 4000 ∧ ∀ c H', Same H H' → Un d c → c.natAbs ≤ d.natAbs → Q (.int c) H'
/-- a sum's end: what it takes, what it tells -/
structure InS (nm : List Str) (N : Nat) (s : Sm) : Prop where
  no : Norm s.2
  sub : ∀ p ∈ s.2, p.1 ∈ nm
  bd : Bs N s
  len : s.2.length < 64
  sh : ∀ p ∈ s.2, p.2.natAbs < 2 ^ 30
theorem InS.so {nm : List Str} {N : Nat} {s : Sm} (h : InS nm N s) (ne : s.2 ≠ []) : SO nm N s := ⟨h.no, h.sub, ne, h.bd, h.sh⟩
/-- an above with parts -/
def Ab (nm : List Str) (N : Nat) (b : Stm) : Prop := ∃ s, b = .above s ∧ SO nm N s
theorem Ab.atom {nm : List Str} {N : Nat} {b : Stm} (h : Ab nm N b) : Atom nm N b := by
  obtain ⟨s, rfl, h⟩ := h
  exact .above h
def sp_form1 (p : Stm → Prop) (nm : List Str) (N : Nat) (mk : Sm → Stm) (K : PySem.W.Frag) : Sp := fun vs H Q _ => ∃ (v : V) (s : Sm), vs = [v] ∧ Dp K H v (sumD s) ∧ InS nm N s ∧ ∀ (t : Addr) (b : Stm) (H' : Hp), Same H H' → Fmd p b → (∀ f, tru f b = tru f (mk s)) → Dp K H' (.ref t) (toD b) → Q (.ref t) H'
theorem form1_imp {p q : Stm → Prop} (h : ∀ b, p b → q b) {nm : List Str} {N : Nat} {mk : Sm → Stm} {K : PySem.W.Frag} (vs : List V) (H : Hp) (Q : VK) (E : XK) (k : sp_form1 q nm N mk K vs H Q E) : sp_form1 p nm N mk K vs H Q E := by
  obtain ⟨v, s, e, d, i, k⟩ := k
  exact ⟨v, s, e, d, i, fun t b H' e1 f => k t b H' e1 (by rcases f with f | f | f; exact .inl f; exact .inr (.inl f); exact .inr (.inr (h _ f)))⟩
def sp_goes (nm : List Str) (N : Nat) (K : PySem.W.Frag) : Sp := fun vs H Q _ => ∃ (v : V) (s : Sm) (m : Int), vs = [.int m, v] ∧ Dp K H v (sumD s) ∧ InS nm N s ∧ 0 < m ∧ m.natAbs ≤ N ∧ ∀ (t : Addr) (b : Stm) (H' : Hp), Same H H' → Fmd (Atom nm N) b → (∀ f, tru f b = tru f (.goes m s)) → Dp K H' (.ref t) (toD b) → Q (.ref t) H'
/-- an end that may be brought into its form -/
def EndOk (nm : List Str) (N : Nat) (a : Stm) : Prop := isEnd a = true ∧ InS nm N (sumOf a) ∧ ∀ m s, a = .goes m s → 0 < m ∧ m.natAbs ≤ N
def sp_simple (nm : List Str) (N : Nat) (K : PySem.W.Frag) : Sp := fun vs H Q _ => ∃ (v : V) (a : Stm), vs = [v] ∧ Dp K H v (toD a) ∧ EndOk nm N a ∧ ∀ (t : Addr) (b : Stm) (H' : Hp), Same H H' → Fmd (Atom nm N) b → (∀ f, tru f b = tru f a) → Dp K H' (.ref t) (toD b) → Q (.ref t) H'
def sp_contrary (nm : List Str) (N : Nat) (K : PySem.W.Frag) : Sp := fun vs H Q _ => ∃ (v : V) (a : Stm), vs = [v] ∧ Dp K H v (toD a) ∧ Atom nm N a ∧ ∀ (t : Addr) (H' : Hp), Same H H' → Dp K H' (.ref t) (toD (conS a)) → Q (.ref t) H'
def sp_turned (K : PySem.W.Frag) : Sp := fun vs H Q _ => ∃ (v : V) (ps : List Pr), vs = [v] ∧ Dp K H v (.tuple (ps.map prT)) ∧ ps.length < 50000 ∧ ∀ (t : Addr) (H' : Hp), Same H H' → Dp K H' (.ref t) (.tuple ((negP ps).map prT)) → Q (.ref t) H'
/-- the inner one of a contrary, else the statement -/
def inner : Stm → Stm
  | .neg a => a
  | a => a
def sp_about (K : PySem.W.Frag) : Sp := fun vs H Q _ => ∃ (v : V) (a : Stm), vs = [v] ∧ Dp K H v (toD a) ∧ Q (.str (headW (inner a))) H
def sp_sum_of (K : PySem.W.Frag) : Sp := fun vs H Q _ => ∃ (v : V) (a : Stm), vs = [v] ∧ Dp K H v (toD a) ∧ isEnd (inner a) = true ∧ ∀ u, Dp K H u (sumD (sumOf (inner a))) → Q u H
def sp_decides (K : PySem.W.Frag) : Sp := fun vs H Q _ => ∃ (v : V) (a : Stm) (o : Bool), vs = [.str (conW o), v] ∧ Dp K H v (toD a) ∧ Q (.bl (decB o a)) H
/-- joined: of a list or a tuple -/
def sp_joined (K : PySem.W.Frag) : Sp := fun vs H Q _ => ∃ (p : Addr) (us : List V) (l : List Stm) (o : Bool), vs = [.str (conW o), .ref p] ∧ (SqL K H p us ∨ SqT K H p us) ∧ DpAll K H us (l.map toD) ∧ (l.flatMap (flat1 o)).length ≤ 1000000 ∧
  ∀ (t : Addr) (H' : Hp), Same H H' → Dp K H' (.ref t) (toD (joinB o l)) → Q (.ref t) H'
def oppS : Nat → Stm → Stm
  | 0, a => a
  | n + 1, .con o l => .con (!o) (l.map (oppS n))
  | _ + 1, a => conS a
end XS

namespace XS
open PySem PySem.Spec PyProof.Rows L2
theorem log2_mono {a b : Nat} (h : a ≤ b) : a.log2 ≤ b.log2 := by
  by_cases ha : a = 0
  · subst ha
    simp
  · have hb : b ≠ 0 := by omega
    have h1 : 2 ^ a.log2 ≤ a := Nat.log2_self_le ha
    rcases Nat.lt_or_ge b.log2 a.log2 with c | c
    · have := (Nat.log2_lt hb).mp c
      omega
    · exact c
end XS
namespace XS
open PySem PySem.Spec PyProof.Rows L2
theorem alike_prs : ∀ ps qs : List Pr, PySem.W.alike (.list (ps.map prT)) (.list (qs.map prT)) = true := by
  have key : ∀ ps qs : List Pr, PySem.W.alikeAll (ps.map prT) (qs.map prT) = true := by
    intro ps
    induction ps with
    | nil => intro qs; simp [PySem.W.alikeAll]
    | cons p ps ih =>
      intro qs
      cases qs with
      | nil => simp [PySem.W.alikeAll]
      | cons q qs =>
        rw [List.map_cons, List.map_cons]
        have h := ih qs
        simp [PySem.W.alikeAll, PySem.W.alike, prT, h]
  intro ps qs
  have h := key ps qs
  simpa [PySem.W.alike] using h
theorem flt_prs (ps : List Pr) : Flt (.list (ps.map prT)) := by
  refine ⟨?_, ?_⟩
  · show PyData.plainAll (ps.map prT) = true
    exact plainAll fun d hd => by
      obtain ⟨p, _, rfl⟩ := List.mem_map.mp hd
      simp [prT, PyData.plain, PyData.plainAll]
  · have := depthAll_le (xs := ps.map prT) (n := 1) fun d hd => by
      obtain ⟨p, _, rfl⟩ := List.mem_map.mp hd
      simp [prT, PyData.depth, PyData.depthAll]
    simp only [PyData.depth]
    omega
end XS

namespace XS
open PySem PySem.Spec PyProof.Rows L2
/-! ### contraries of trees -/
mutual
def opT : Stm → Stm
  | .con o l => .con (!o) (opTs l)
  | .above s => conS (.above s)
  | .nought s => conS (.nought s)
  | .goes m s => conS (.goes m s)
  | .neg a => a
  | .bnd o x a => .bnd o x a
def opTs : List Stm → List Stm
  | [] => []
  | a :: l => opT a :: opTs l
end
theorem opTs_map : ∀ l, opTs l = l.map opT
  | [] => rfl
  | a :: l => by rw [List.map_cons, ← opTs_map l]; rfl
theorem opT_atom {nm : List Str} {N : Nat} {a : Stm} (h : Atom nm N a) : opT a = conS a := by cases h <;> rfl
theorem conS_con {nm : List Str} {N : Nat} {a : Stm} (h : Atom nm N a) : isCon (conS a) = false := atom_con (conS_ok h).1
theorem opT_tr {nm : List Str} {N n : Nat} {a : Stm} (h : Tr (Atom nm N) n a) : Tr (Atom nm (N + 1)) n (opT a) ∧ (∀ f, tru f (opT a) = !tru f a) ∧ lv (opT a) = lv a := by
  induction h with
  | atom h _ =>
    rw [opT_atom h]
    exact ⟨.atom (conS_ok h).1 (conS_con h), (conS_ok h).2, by rw [atom_lv1 (conS_ok h).1, atom_lv1 h]⟩
  | @con o l n hl _ ih =>
    have e : opT (.con o l) = .con (!o) (l.map opT) := by show Stm.con (!o) (opTs l) = _; rw [opTs_map]
    rw [e]
    refine ⟨.con (fun e => hl (List.map_eq_nil_iff.mp e)) fun b hb => ?_, fun f => ?_, ?_⟩
    · obtain ⟨c, hc, rfl⟩ := List.mem_map.mp hb
      exact (ih c hc).1
    · rw [tru_con, tru_con]
      have key : ∀ m : List Stm, (∀ c ∈ m, c ∈ l) → (m.map opT).any (tru f) = !m.all (tru f) ∧ (m.map opT).all (tru f) = !m.any (tru f) := by
        intro m
        induction m with
        | nil => intro _; exact ⟨rfl, rfl⟩
        | cons c m ihm =>
          intro hm
          obtain ⟨h1, h2⟩ := ihm fun d hd => hm d (List.mem_cons_of_mem _ hd)
          have h3 := (ih c (hm c (List.mem_cons_self ..))).2.1 f
          rw [List.map_cons, List.any_cons, List.all_cons, List.any_cons, List.all_cons, h1, h2, h3]
          cases tru f c <;> simp
      obtain ⟨h1, h2⟩ := key l fun _ h => h
      cases o with
      | true => simpa using h1
      | false => simpa using h2
    · show lvs (l.map opT) = lvs l
      have key : ∀ m : List Stm, (∀ c ∈ m, c ∈ l) → lvs (m.map opT) = lvs m := by
        intro m
        induction m with
        | nil => intro _; rfl
        | cons c m ihm =>
          intro hm
          show lv (opT c) + lvs (m.map opT) = lv c + lvs m
          rw [ihm fun d hd => hm d (List.mem_cons_of_mem _ hd), (ih c (hm c (List.mem_cons_self ..))).2.2]
      exact key l fun _ h => h
theorem opT_ft {nm : List Str} {N n : Nat} {a : Stm} (h : FT (Atom nm N) n a) : FT (Atom nm (N + 1)) n (opT a) ∧ (∀ f, tru f (opT a) = !tru f a) ∧ lv (opT a) = lv a := by
  rcases h with rfl | rfl | h
  · exact ⟨.inr (.inl rfl), fun _ => rfl, rfl⟩
  · exact ⟨.inl rfl, fun _ => rfl, rfl⟩
  · obtain ⟨h1, h2, h3⟩ := opT_tr h
    exact ⟨.inr (.inr h1), h2, h3⟩
/-- FT in depth of statements -/
theorem tr_dep {p : Stm → Prop} {n : Nat} {a : Stm} (hp : ∀ a, p a → dep a ≤ 2) (h : Tr p n a) : dep a ≤ n + 2 := by
  induction h with
  | atom h _ => have := hp _ h; omega
  | @con o l n _ _ ih =>
    show deps l + 1 ≤ n + 1 + 2
    have := deps_le ih
    omega
theorem ft_dep {p : Stm → Prop} {n : Nat} {a : Stm} (hp : ∀ a, p a → dep a ≤ 2) (h : FT p n a) : dep a ≤ n + 2 := by
  rcases h with rfl | rfl | h
  · show 0 + 1 ≤ _; omega
  · show 0 + 1 ≤ _; omega
  · exact tr_dep hp h
theorem atom_dep {nm : List Str} {N : Nat} {a : Stm} (h : Atom nm N a) : dep a ≤ 2 := by
  cases h with
  | above _ | nought _ | goes _ => exact (by decide : (1 : Nat) ≤ 2)
  | nn _ | ng _ => exact Nat.le_refl 2
theorem flat_len {p : Stm → Prop} (hp : ∀ a, p a → 0 < lv a) {n : Nat} {o : Bool} : ∀ {l : List Stm}, (∀ a ∈ l, FT p n a) → (l.flatMap (flat1 o)).length ≤ lvs l + l.length
  | [], _ => Nat.le_refl _
  | a :: l, h => by
    have h1 := flat_len hp (o := o) (l := l) fun b hb => h b (List.mem_cons_of_mem _ hb)
    have h2 : (flat1 o a).length ≤ lv a + 1 := by
      rcases h a (List.mem_cons_self ..) with rfl | rfl | h
      · cases o <;> simp [flat1]
      · cases o <;> simp [flat1]
      · cases h with
        | atom _ e =>
          have : flat1 o a = [a] := by cases a <;> first | rfl | cases e
          rw [this]
          simp
        | @con o' m n hl hm =>
          have := lvs_len hp hm
          show (if o' = o then m else [.con o' m]).length ≤ lvs m + 1
          split
          · omega
          · simp
    rw [List.flatMap_cons, List.length_append]
    show _ ≤ lv a + lvs l + (l.length + 1)
    omega
def sp_opposite (nm : List Str) (N n : Nat) (K : PySem.W.Frag) : Sp := fun vs H Q _ => ∃ (v : V) (a : Stm), vs = [v] ∧ Dp K H v (toD a) ∧ FT (Atom nm N) n a ∧ lv a ≤ 100000 ∧ ∀ (t : Addr) (H' : Hp), Same H H' → Dp K H' (.ref t) (toD (opT a)) → Q (.ref t) H'
/-- a function that changes simple statements -/
def sp_change (p q : Stm → Prop) (K : PySem.W.Frag) : Sp := fun vs H Q _ => ∃ (v : V) (a : Stm), vs = [v] ∧ Dp K H v (toD a) ∧ p a ∧ ∀ (t : Addr) (b : Stm) (H' : Hp), Same H H' → FT q 1 b → (∀ f, tru f b = tru f a) → lv b ≤ 2 → Dp K H' (.ref t) (toD b) → Q (.ref t) H'
def sp_changed (p q : Stm → Prop) (g : Addr) (n : Nat) (K : PySem.W.Frag) : Sp := fun vs H Q _ => ∃ (v : V) (a : Stm), vs = [v, .ref g] ∧ Dp K H v (toD a) ∧ FT p n a ∧ lv a ≤ 100000 ∧
  ∀ (t : Addr) (b : Stm) (H' : Hp), Same H H' → FT q (n + 1) b → (∀ f, tru f b = tru f a) → lv b ≤ 2 * lv a → Dp K H' (.ref t) (toD b) → Q (.ref t) H'
/-- lists of statements that say the same, one by one -/
structure Rl (q : Stm → Prop) (n : Nat) (l bs : List Stm) : Prop where
  len : bs.length = l.length
  ft : ∀ b ∈ bs, FT q n b
  tr : ∀ f, bs.map (tru f) = l.map (tru f)
  lv : lvs bs ≤ 2 * lvs l
theorem Rl.nil {q : Stm → Prop} {n : Nat} : Rl q n [] [] := ⟨rfl, (by intro b hb; cases hb), fun _ => rfl, Nat.le_refl _⟩
theorem Rl.more {q : Stm → Prop} {n : Nat} {l bs : List Stm} {a b : Stm} (r : Rl q n l bs) (h1 : FT q n b) (h2 : ∀ f, tru f b = tru f a) (h3 : XS.lv b ≤ 2 * XS.lv a) : Rl q n (l ++ [a]) (bs ++ [b]) := by
  refine ⟨by rw [List.length_append, List.length_append, r.len]; rfl, fun c hc => ?_, fun f => ?_, ?_⟩
  · rcases List.mem_append.mp hc with hc | hc
    · exact r.ft c hc
    · rw [List.mem_singleton.mp hc]; exact h1
  · rw [List.map_append, List.map_append, r.tr f, List.map_singleton, List.map_singleton, h2]
  · have := r.lv
    rw [lvs_app, lvs_app]
    show lvs bs + (XS.lv b + 0) ≤ 2 * (lvs l + (XS.lv a + 0))
    omega
theorem Rl.con {q : Stm → Prop} {n : Nat} {l bs : List Stm} (r : Rl q n l bs) (o : Bool) (f : Str → Int) : tru f (.con o bs) = tru f (.con o l) := by
  have e := r.tr f
  have h1 : bs.all (tru f) = l.all (tru f) := by
    have := congrArg (fun z : List Bool => z.all id) e
    simp only [List.all_map] at this
    exact this
  have h2 : bs.any (tru f) = l.any (tru f) := by
    have := congrArg (fun z : List Bool => z.any id) e
    simp only [List.any_map] at this
    exact this
  rw [tru_con, tru_con, h1, h2]
def sp_depth (n : Nat) (K : PySem.W.Frag) : Sp := fun vs H Q _ => ∃ (v : V) (a : Stm), vs = [v] ∧ Dp K H v (toD a) ∧ dep a ≤ n ∧ ∀ H', Same H H' → Q (.int (dep a)) H'
def depM (l : List Stm) : Nat := l.foldl (fun m b => max m (dep b)) 0
theorem depM_app (l : List Stm) (b : Stm) : depM (l ++ [b]) = max (depM l) (dep b) := by
  unfold depM
  rw [List.foldl_append]
  rfl
theorem depM_eq (l : List Stm) : depM l = deps l := by
  have key : ∀ (l : List Stm) (m : Nat), l.foldl (fun m b => max m (dep b)) m = max m (deps l) := by
    intro l
    induction l with
    | nil => intro m; show m = max m 0; omega
    | cons b l ih =>
      intro m
      rw [List.foldl_cons, ih]
      show max (max m (dep b)) (deps l) = max m (max (dep b) (deps l))
      omega
  unfold depM
  rw [key]
  omega
theorem dep_depM (a : Stm) : dep a = depM (parts a) + 1 := by
  rw [depM_eq]
  cases a with
  | above _ | nought _ | goes _ _ => rfl
  | neg c => show dep c + 1 = max (dep c) 0 + 1; omega
  | bnd o x c => show dep c + 1 = max (dep c) 0 + 1; omega
  | con o l => rfl
def sp_no : Sp := fun _ _ _ _ => False
/-- a statement shallow enough is told as it is -/
def sp_shallow (K : PySem.W.Frag) : Sp := fun vs H Q _ => ∃ (v : V) (a : Stm) (most : Int), vs = [v, .int most] ∧ Dp K H v (toD a) ∧ dep a ≤ 60 ∧ (dep a : Int) ≤ most ∧ ∀ H', Same H H' → Q v H'
def sp_fitting (K : PySem.W.Frag) : Sp := fun vs H Q _ => ∃ (v u : V) (a s : Stm), vs = [v, u] ∧ Dp K H v (toD a) ∧ Dp K H u (toD s) ∧ dep a ≤ 40 ∧ dep s ≤ 60 ∧ ∀ H', Same H H' → Q v H'
/-- all ends of a plain statement keep q, lists are short -/
inductive Ed (q : Stm → Prop) : Stm → Prop
  | fin {a : Stm} : isEnd a = true → q a → Ed q a
  | neg {a : Stm} : Ed q a → Ed q (.neg a)
  | con {o : Bool} {l : List Stm} : (∀ a ∈ l, Ed q a) → l.length ≤ 64 → Ed q (.con o l)
theorem Ed.mono {q r : Stm → Prop} (h : ∀ a, q a → r a) {a : Stm} (e : Ed q a) : Ed r a := by
  induction e with
  | fin e x => exact .fin e (h _ x)
  | neg _ ih => exact .neg ih
  | con _ hl ih => exact .con ih hl
theorem Ed.ev {q : Stm → Prop} {p : Sm → Prop} (h : ∀ a, q a → p (sumOf a)) (hm : ∀ m s, q (.goes m s) → 0 < m) {a : Stm} (e : Ed q a) : Ev p a := by
  induction e with
  | @fin a e x =>
    cases a with
    | above s => exact .above (h _ x)
    | nought s => exact .nought (h _ x)
    | goes m s => exact .goes (h _ x) (hm m s x)
    | neg _ | con _ _ | bnd _ _ _ => cases e
  | neg _ ih => exact .neg ih
  | con _ hl ih => exact .con ih hl
theorem Ed.plain {q : Stm → Prop} {a : Stm} (e : Ed q a) : plainB a = true := by
  induction e with
  | @fin a e x => cases a <;> first | rfl | cases e
  | neg _ ih => exact ih
  | con _ _ ih =>
    show plainBs _ = true
    rw [plainBs_all]
    exact List.all_eq_true.mpr ih
structure GoodE (q : Stm → Prop) (n : Nat) (a : Stm) : Prop where
  ed : Ed q a
  dp : dep a ≤ n
theorem GoodE.mono {q : Stm → Prop} {n m : Nat} {a : Stm} (g : GoodE q n a) (h : n ≤ m) : GoodE q m a := ⟨g.ed, Nat.le_trans g.dp h⟩
theorem GoodE.fin {q : Stm → Prop} {a : Stm} (e : isEnd a = true) (h : q a) : GoodE q 1 a := ⟨.fin e h, by cases a <;> first | exact Nat.le_refl _ | cases e⟩
theorem GoodE.neg {q : Stm → Prop} {n : Nat} {a : Stm} (g : GoodE q n a) : GoodE q (n + 1) (.neg a) := ⟨.neg g.ed, Nat.succ_le_succ g.dp⟩
theorem GoodE.con {q : Stm → Prop} {n : Nat} {o : Bool} {l : List Stm} (g : ∀ a ∈ l, GoodE q n a) (hl : l.length ≤ 64) : GoodE q (n + 1) (.con o l) :=
  ⟨.con (fun a ha => (g a ha).ed) hl, Nat.succ_le_succ (deps_le fun a ha => (g a ha).dp)⟩
theorem GoodE.con0 {q : Stm → Prop} {n : Nat} {o : Bool} : GoodE q (n + 1) (.con o []) := GoodE.con (fun a ha => by cases ha) (by simp)
theorem GoodE.con1 {q : Stm → Prop} {n : Nat} {o : Bool} {a : Stm} (g : GoodE q n a) : GoodE q (n + 1) (.con o [a]) := GoodE.con (fun b hb => by rw [List.mem_singleton.mp hb]; exact g) (by simp)
theorem GoodE.con2 {q : Stm → Prop} {n : Nat} {o : Bool} {a b : Stm} (g : GoodE q n a) (h : GoodE q n b) : GoodE q (n + 1) (.con o [a, b]) := GoodE.con (fun c hc => by
  rcases List.mem_cons.mp hc with rfl | hc
  · exact g
  · rw [List.mem_singleton.mp hc]; exact h) (by simp)
theorem GoodE.con3 {q : Stm → Prop} {n : Nat} {o : Bool} {a b c : Stm} (g : GoodE q n a) (h : GoodE q n b) (k : GoodE q n c) : GoodE q (n + 1) (.con o [a, b, c]) := GoodE.con (fun d hd => by
  rcases List.mem_cons.mp hd with rfl | hd
  · exact g
  rcases List.mem_cons.mp hd with rfl | hd
  · exact h
  · rw [List.mem_singleton.mp hd]; exact k) (by simp)
theorem turnW_goodE {q : Stm → Prop} {way c : Int} {e a : Stm} {n : Nat} (ge : GoodE q (n + 1) e) (ga : GoodE q (n + 1) a) : GoodE q (n + 4) (turnW way c e a) := by
  have E2 := ge.mono (by omega : n + 1 ≤ n + 2)
  have A2 := ga.mono (by omega : n + 1 ≤ n + 2)
  have E3 := ge.mono (by omega : n + 1 ≤ n + 3)
  have A3 := ga.mono (by omega : n + 1 ≤ n + 3)
  unfold turnW
  split
  · exact GoodE.con2 A3 E3
  split
  · exact GoodE.con2 A3 E3
  split
  · exact GoodE.con2 A2.neg E3
  split
  · exact (GoodE.con3 E2 A2 GoodE.con0).neg
  split
  · exact GoodE.con2 (GoodE.con2 E2 A2) E2.neg
  split
  · exact GoodE.con3 E3 GoodE.con0 A3
  split
  · exact GoodE.con2 ga.neg.neg E2.neg
  split
  · exact GoodE.con2 (GoodE.con1 A2) (GoodE.con1 (GoodE.con1 ge))
  · refine GoodE.con (n := n + 3) (fun b hb => ?_) ?_
    · rcases List.mem_append.mp hb with hb | hb
      · rcases List.mem_cons.mp hb with rfl | hb
        · exact E3
        rcases List.mem_cons.mp hb with rfl | hb
        · exact E3
        · rw [List.mem_singleton.mp hb]; exact A3
      · rw [List.eq_of_mem_replicate hb]; exact E3
    · have h1 := Int.emod_lt_of_pos (c / 18) (by decide : (0 : Int) < 18)
      rw [List.length_append, List.length_replicate]
      show 3 + _ ≤ 64
      omega
theorem plainRun_goodE {q : Stm → Prop} {ns : List Int} {first wd most : Int} {nm : List Str} (h : ∀ c, q (endBy c nm wd most)) : ∀ i : Nat, GoodE q (1 + 3 * i) (plainRun ns first nm wd most i)
  | 0 => GoodE.fin (endBy_is ..).1 (h _)
  | i + 1 => by
    have e : 1 + 3 * (i + 1) = 3 * i + 4 := by omega
    rw [e]
    have ih := plainRun_goodE (ns := ns) (first := first) h i
    exact turnW_goodE (n := 3 * i) ((GoodE.fin (endBy_is ..).1 (h _)).mono (by omega)) (ih.mono (by omega))
theorem plainBy_goodE {q : Stm → Prop} {ns : List Int} {first count wd most : Int} {nm : List Str} (h : ∀ c nm', nm' = nm ∨ nm' = [] → q (endBy c nm' wd most)) (hc : count ≤ 6) : GoodE q 16 (plainBy ns first count nm wd most) := by
  unfold plainBy
  split
  · exact GoodE.con0.mono (n := 0 + 1) (by omega)
  · refine (plainRun_goodE (fun c => h c _ ?_) _).mono (by omega)
    unfold namesFor
    split
    · exact .inr rfl
    · exact .inl rfl
theorem edgeBy_goodE {q : Stm → Prop} {c : Int} {nm : List Str} {m : List Pr} (h : q (edgeEnd c nm m)) : GoodE q 2 (edgeBy c nm m) := by
  have e : isEnd (edgeEnd c nm m) = true := by
    unfold edgeEnd
    split
    · rfl
    split
    · rfl
    · rfl
  have g := GoodE.fin e h
  unfold edgeBy
  split
  · exact g.neg
  · exact g.mono (by omega)
/-- leaves of what is drawn -/
theorem lvs_rep (e : Stm) : ∀ n : Nat, lvs (List.replicate n e) = n * lv e
  | 0 => by simp [lvs]
  | n + 1 => by
    rw [List.replicate_succ]
    show lv e + lvs _ = _
    rw [lvs_rep e n, Nat.add_mul]
    omega
theorem turnW_lv {way c : Int} {e a : Stm} (he : lv e = 1) : lv (turnW way c e a) ≤ lv a + 20 := by
  unfold turnW
  split
  · (simp [lv, lvs, he]) <;> omega
  split
  · (simp [lv, lvs, he]) <;> omega
  split
  · (simp [lv, lvs, he]) <;> omega
  split
  · (simp [lv, lvs, he]) <;> omega
  split
  · (simp [lv, lvs, he]) <;> omega
  split
  · (simp [lv, lvs, he]) <;> omega
  split
  · (simp [lv, lvs, he]) <;> omega
  split
  · (simp [lv, lvs, he]) <;> omega
  · show lvs ([e, e, a] ++ _) ≤ _
    have h1 := Int.emod_lt_of_pos (c / 18) (by decide : (0 : Int) < 18)
    have h2 := Int.emod_nonneg (c / 18) (by decide : (18 : Int) ≠ 0)
    rw [lvs_app, lvs_rep, he]
    show lv e + (lv e + (lv a + 0)) + _ ≤ _
    omega
theorem end_lv {a : Stm} (e : isEnd a = true) : lv a = 1 := by cases a <;> first | rfl | cases e
theorem plainRun_lv {ns : List Int} {first wd most : Int} {nm : List Str} : ∀ i : Nat, lv (plainRun ns first nm wd most i) ≤ 1 + 20 * i
  | 0 => by rw [show plainRun ns first nm wd most 0 = endBy (cell ns first) nm wd most from rfl, end_lv (endBy_is ..).1]; omega
  | i + 1 => by
    have ih := plainRun_lv (ns := ns) (first := first) (wd := wd) (most := most) (nm := nm) i
    show lv (turnBy ns first nm wd most (plainRun ns first nm wd most i) i) ≤ _
    unfold turnBy
    refine Nat.le_trans (turnW_lv (end_lv (endBy_is ..).1)) ?_
    omega
theorem plainBy_lv {ns : List Int} {first count wd most : Int} {nm : List Str} (hc : count ≤ 6) : lv (plainBy ns first count nm wd most) ≤ 121 := by
  unfold plainBy
  split
  · exact Nat.zero_le _
  · refine Nat.le_trans (plainRun_lv _) ?_
    omega
/-- formed: of a plain statement, as it is wanted -/
def sp_formed (nm : List Str) (N n : Nat) (K : PySem.W.Frag) : Sp := fun vs H Q _ => ∃ (v : V) (a : Stm) (wt : Bool), vs = [v, .bl wt] ∧ Dp K H v (toD a) ∧ Ed (EndOk nm N) a ∧ dep a ≤ n ∧ lv a ≤ 10000 ∧
  ∀ (t : Addr) (b : Stm) (H' : Hp), Same H H' → FT (Atom nm (N + 1)) n b → (∀ f, tru f b = (tru f a == wt)) → lv b ≤ lv a → Dp K H' (.ref t) (toD b) → Q (.ref t) H'
end XS

namespace XS
open PySem PySem.Spec PyProof.Rows L2
theorem x_forB {K : PySem.W.Frag} {σ : L2.St} {H H0 : Hp} {D : Ends} {g : TG} {t : TS} {p : Addr} {us : List V} (hx : SqL K H0 p us ∨ SqT K H0 p us) (Pv : Nat → L2.St → Hp → Prop) (h0 : Pv 0 σ H) (hl : ∀ i σ' H', Pv i σ' H' → Same H0 H')
    (hs : ∀ i x σ' H', us[i]? = some x → Pv i σ' H' → g x σ' H' fun σ2 H2 => t { D with nx := Pv (i + 1), ct := Pv (i + 1), bk := D.nx } σ2 H2) (hd : ∀ σ' H', Pv us.length σ' H' → D.nx σ' H') :
    ∃ a, V.ref p = .ref a ∧ (((∃ xs, SqL K H a xs) ∧ ForJ (Itl K a) g t D σ H) ∨ ((∃ xs, SqT K H a xs) ∧ ForJ (Itt K a) g t D σ H)) := by
  have e0 := hl 0 σ H h0
  rcases hx with hx | hx
  · exact ⟨p, rfl, .inl ⟨⟨us, e0.seq hx⟩, for_list (K := K) (a := p) (xs := us) Pv h0 (fun i σ' H' _ q => (hl i σ' H' q).seq hx) hs hd⟩⟩
  · exact ⟨p, rfl, .inr ⟨⟨us, e0.seqT hx⟩, for_tup (K := K) (a := p) (xs := us) Pv h0 (fun i σ' H' _ q => (hl i σ' H' q).seqT hx) hs hd⟩⟩
theorem flat_take (o : Bool) {l : List Stm} {i : Nat} {a : Stm} (h : l[i]? = some a) : (l.take (i + 1)).flatMap (flat1 o) = (l.take i).flatMap (flat1 o) ++ flat1 o a := by
  rw [XS.take_more h, List.flatMap_append]
  simp
theorem head_con {a : Stm} {o : Bool} (h : headW a = conW o) : ∃ m, a = .con o m := by
  cases o with
  | true =>
    have e : decide (headW a = conW true) = isAnd a := isAnd_eq a
    rw [decide_eq_true h] at e
    cases a with
    | con q m => cases q <;> first | exact ⟨m, rfl⟩ | cases e
    | _ => cases e
  | false =>
    have e : decide (headW a = conW false) = isOr a := isOr_eq a
    rw [decide_eq_true h] at e
    cases a with
    | con q m => cases q <;> first | exact ⟨m, rfl⟩ | cases e
    | _ => cases e
end XS
namespace XS
open PySem PySem.Spec PyProof.Rows L2
/-- the def named own stands in the module's names as nm -/
def FunAs (K : PySem.W.Frag) (mg : Str → Option Value) (nm own : Str) (st : Stmt) (ps : List Str) : Prop :=
  ∃ f fd, Fun K own own st f fd ∧ mg nm = some (.ref f) ∧ Binds K fd ps []
section
variable {P : Program} {w : World} {K : PySem.W.Frag} {mg : Str → Option Value} {base : Heap} {nm own : Str} {st : Stmt} {ps N : List Str} {sp : Sp} {k : Nat} {CXX : CXT}
theorem FunAs.ok (F : FunAs K mg nm own st ps) (S : FnScope N ps (defScope st)) (len : ∀ vs H Q E, sp vs H Q E → vs.length = ps.length)
    (hbody : ∀ (f : Addr) (cdv : Value) (A : Around) (outer : List Env) (s : Shared) (H : Hp) (vs : List V) (Q : VK) (E : XK), Room k (A.deeper (envOfC own (defScope st) s.heap.objs.size f cdv)) → sp vs H Q E →
      ∃ t, PSs (cxOf CX0 P w K mg base N own (defScope st) f cdv A outer s H E).nox (defBody st) t ∧ t { nx := fun _ H' => Q .non H', rt := Q } (start N vs) H) : DefAt P w K mg base CX0 (k + 1) nm ps sp := by
  obtain ⟨f, fd, F, a, b⟩ := F
  exact ⟨f, fd, F.ok S len (hbody f), a, F.kp, b⟩
theorem FunAs.never (F : FunAs K mg nm own st ps) (no : ∀ vs H Q E, ¬ sp vs H Q E) : DefAt P w K mg base CXX k nm ps sp := by
  obtain ⟨f, fd, F, a, b⟩ := F
  exact ⟨f, fd, ⟨fun vs H Q E h => absurd h (no vs H Q E), fun A outer s H args us vs Q E _ _ _ _ h => absurd h (no vs H Q E)⟩, a, F.kp, b⟩
end
end XS

namespace XS
open PySem PySem.Spec PyProof.Rows L2
/-- numbers of the module -/
structure Ci (mg : Str → Option Value) : Prop where
  c_MOST_WITHIN : ∃ t, mg "MOST_WITHIN" = some (.int 40 t)
/-- lists of statements that say, one by one, whether the others are as wanted -/
structure Rw (q : Stm → Prop) (n : Nat) (wt : Bool) (l bs : List Stm) : Prop where
  len : bs.length = l.length
  ft : ∀ b ∈ bs, FT q n b
  tr : ∀ f, bs.map (tru f) = l.map fun c => tru f c == wt
  lv : lvs bs ≤ lvs l
theorem Rw.nil {q : Stm → Prop} {n : Nat} {wt : Bool} : Rw q n wt [] [] := ⟨rfl, (by intro b hb; cases hb), fun _ => rfl, Nat.le_refl _⟩
theorem Rw.more {q : Stm → Prop} {n : Nat} {wt : Bool} {l bs : List Stm} {a b : Stm} (r : Rw q n wt l bs) (h1 : FT q n b) (h2 : ∀ f, tru f b = (tru f a == wt)) (h3 : XS.lv b ≤ XS.lv a) : Rw q n wt (l ++ [a]) (bs ++ [b]) := by
  refine ⟨by rw [List.length_append, List.length_append, r.len]; rfl, fun c hc => ?_, fun f => ?_, ?_⟩
  · rcases List.mem_append.mp hc with hc | hc
    · exact r.ft c hc
    · rw [List.mem_singleton.mp hc]; exact h1
  · rw [List.map_append, List.map_append, r.tr f, List.map_singleton, List.map_singleton, h2]
  · have := r.lv
    rw [lvs_app, lvs_app]
    show lvs bs + (XS.lv b + 0) ≤ lvs l + (XS.lv a + 0)
    omega
theorem Rw.con {q : Stm → Prop} {n : Nat} {wt : Bool} {l bs : List Stm} (r : Rw q n wt l bs) (o : Bool) (f : Str → Int) : tru f (.con (if wt = true then o else !o) bs) = (tru f (.con o l) == wt) := by
  have e := r.tr f
  have h1 : bs.all (tru f) = l.all fun c => tru f c == wt := by
    have := congrArg (fun z : List Bool => z.all id) e
    simp only [List.all_map] at this
    exact this
  have h2 : bs.any (tru f) = l.any fun c => tru f c == wt := by
    have := congrArg (fun z : List Bool => z.any id) e
    simp only [List.any_map] at this
    exact this
  rw [tru_con, tru_con, h1, h2]
  have k1 : ∀ m : List Stm, (m.all fun c => tru f c == false) = !m.any (tru f) := by
    intro m
    induction m with
    | nil => rfl
    | cons c m ih => rw [List.all_cons, List.any_cons, ih]; cases tru f c <;> simp
  have k2 : ∀ m : List Stm, (m.any fun c => tru f c == false) = !m.all (tru f) := by
    intro m
    induction m with
    | nil => rfl
    | cons c m ih => rw [List.all_cons, List.any_cons, ih]; cases tru f c <;> simp
  have k3 : ∀ c, (tru f c == true) = tru f c := fun c => by cases tru f c <;> rfl
  cases wt with
  | true =>
    simp only [k3, if_true]
    cases o <;> simp
  | false =>
    rw [k1, k2]
    cases o <;> simp
/-- simple ones without nought -/
inductive Satom (nm : List Str) (N : Nat) : Stm → Prop
  | above {s : Sm} : SO nm N s → Satom nm N (.above s)
  | goes {m : Int} {s : Sm} : GO nm N m s → Satom nm N (.goes m s)
  | ng {m : Int} {s : Sm} : GO nm N m s → Satom nm N (.neg (.goes m s))
theorem satom_lv {nm : List Str} {N : Nat} {a : Stm} (h : Satom nm N a) : 0 < lv a := by cases h <;> exact Nat.one_pos
theorem satom_dep {nm : List Str} {N : Nat} {a : Stm} (h : Satom nm N a) : dep a ≤ 2 := by
  cases h with
  | above _ | goes _ => exact (by decide : (1 : Nat) ≤ 2)
  | ng _ => exact Nat.le_refl 2
def sp_straight (nm : List Str) (N : Nat) (K : PySem.W.Frag) (NP : Addr) : Sp := fun vs H Q E => ∃ (v : V) (a : Stm), vs = [v] ∧ Dp K H v (toD a) ∧ dep a ≤ 36 ∧ (plainB a = true → Ed (EndOk nm N) a ∧ lv a ≤ 10000) ∧
  (plainB a = true → ∀ (t : Addr) (b : Stm) (H' : Hp), Same H H' → FT (Satom nm (N + 2)) 37 b → (∀ f, tru f b = tru f a) → lv b ≤ 20000 → Dp K H' (.ref t) (toD b) → Q (.ref t) H') ∧ (plainB a = false → ∀ H', Same H H' → E (.ref NP) none H')
/-- sums near a sum -/
theorem nrm_id {ps : List Pr} (n : Norm ps) : nrm ps = ps := (norm_is n fun _ => rfl).symm
theorem mkS_id {s : Sm} (n : Norm s.2) : mkS s.1 s.2 = s := by
  show (s.1, nrm s.2) = s
  rw [nrm_id n]
theorem add_one {s : Sm} (n : Norm s.2) (k : Int) : addS (k, []) s = (k + s.1, s.2) := by
  show (k + s.1, nrm ([] ++ s.2)) = _
  rw [List.nil_append, nrm_id n]
theorem tim_neg {s : Sm} (n : Norm s.2) : timS (-1) s = (-s.1, negP s.2) := by
  show (-1 * s.1, nrm (s.2.map fun p => (p.1, -1 * p.2))) = _
  have e : (s.2.map fun p => (p.1, -1 * p.2)) = negP s.2 := List.map_congr_left fun p _ => by rw [Int.neg_one_mul]
  have n' : Norm (negP s.2) := ⟨by rw [negP_names]; exact n.rise, fun q hq => by
    obtain ⟨p, hp, rfl⟩ := List.mem_map.mp hq
    have := n.nz p hp
    show -p.2 ≠ 0
    omega⟩
  rw [e, Int.neg_one_mul, nrm_id n']
theorem so_in {nm : List Str} {N : Nat} {s : Sm} (h : SO nm N s) (hnm : nm.length ≤ 32) : InS nm N s := ⟨h.no, h.sub, h.bd, by
  have := nd_len h.no.rise.nodup (ys := nm) fun x hx => by
    obtain ⟨p, hp, rfl⟩ := List.mem_map.mp hx
    exact h.sub p hp
  rw [List.length_map] at this
  omega, h.sh⟩
theorem bs_sml {N : Nat} {s : Sm} (h : Bs N s) (hN : N.log2 < 4000) : SmlS s := by
  have k : ∀ {i : Int}, i.natAbs ≤ N → Sml i := fun h => by
    have := log2_mono h
    unfold Sml
    omega
  exact ⟨k h.1, fun p hp => k (h.2 p hp)⟩
/-- above of a sum with parts: no constant -/
def sp_above2 (nm : List Str) (N : Nat) (K : PySem.W.Frag) : Sp := fun vs H Q _ => ∃ (v : V) (s : Sm), vs = [v] ∧ Dp K H v (sumD s) ∧ InS nm N s ∧ s.2 ≠ [] ∧ ∀ (t : Addr) (s' : Sm) (H' : Hp), Same H H' → SO nm N s' → (∀ f, tru f (.above s') = tru f (.above s)) → Dp K H' (.ref t) (toD (.above s')) → Q (.ref t) H'
end XS

namespace XS
open PySem PySem.Spec PyProof.Rows L2
/-- all sums keep p, lists of any length -/
inductive Evu (p : Sm → Prop) : Stm → Prop
  | above {s : Sm} : p s → Evu p (.above s)
  | nought {s : Sm} : p s → Evu p (.nought s)
  | goes {m : Int} {s : Sm} : p s → 0 < m → Evu p (.goes m s)
  | neg {a : Stm} : Evu p a → Evu p (.neg a)
  | con {o : Bool} {l : List Stm} : (∀ a ∈ l, Evu p a) → True → Evu p (.con o l)
  | bnd {o : Bool} {x : Str} {a : Stm} : Evu p a → Evu p (.bnd o x a)
theorem Evu.parts {p : Sm → Prop} {a b : Stm} (e : Evu p a) (h : b ∈ XS.parts a) : Evu p b := by
  cases e with
  | above | nought | goes => cases h
  | @neg c hc =>
    have e : b = c := by simpa [XS.parts] using h
    subst e
    exact hc
  | @bnd o x c hc =>
    have e : b = c := by simpa [XS.parts] using h
    subst e
    exact hc
  | con c _ => exact c _ h
theorem Evu.mono {p q : Sm → Prop} (h : ∀ s, p s → q s) : ∀ {a : Stm}, Evu p a → Evu q a := by
  intro a e
  induction e with
  | above x => exact .above (h _ x)
  | nought x => exact .nought (h _ x)
  | goes x y => exact .goes (h _ x) y
  | neg _ ih => exact .neg ih
  | con _ _ ih => exact .con ih trivial
  | bnd _ ih => exact .bnd ih
theorem Ev.u {p : Sm → Prop} {a : Stm} (e : Ev p a) : Evu p a := by
  induction e with
  | above x => exact .above x
  | nought x => exact .nought x
  | goes x y => exact .goes x y
  | neg _ ih => exact .neg ih
  | con _ _ ih => exact .con ih trivial
  | bnd _ ih => exact .bnd ih
def sp_truthU (n : Nat) (K : PySem.W.Frag) : Sp := fun vs H Q _ => ∃ (v : V) (d : Addr) (a : Stm) (m : List Pr), vs = [v, .ref d] ∧ Dp K H v (toD a) ∧ H d = some (.dK (dOf m)) ∧ (∀ q ∈ m, Sml q.2) ∧ Evu (OkS m) a ∧ plainB a = true ∧ dep a ≤ n ∧ Q (.bl (tru (look m) a)) H
/-- trees in these words -/
theorem tr_evu {p : Stm → Prop} {q : Sm → Prop} {n : Nat} {a : Stm} (hp : ∀ b, p b → Evu q b) (h : Tr p n a) : Evu q a := by
  induction h with
  | atom h _ => exact hp _ h
  | con _ _ ih => exact .con ih trivial
theorem ft_evu {p : Stm → Prop} {q : Sm → Prop} {n : Nat} {a : Stm} (hp : ∀ b, p b → Evu q b) (h : FT p n a) : Evu q a := by
  rcases h with rfl | rfl | h
  · exact .con (fun b hb => by cases hb) trivial
  · exact .con (fun b hb => by cases hb) trivial
  · exact tr_evu hp h
theorem tr_plain {p : Stm → Prop} {n : Nat} {a : Stm} (hp : ∀ b, p b → plainB b = true) (h : Tr p n a) : plainB a = true := by
  induction h with
  | atom h _ => exact hp _ h
  | con _ _ ih =>
    show plainBs _ = true
    rw [plainBs_all]
    exact List.all_eq_true.mpr ih
theorem ft_plain {p : Stm → Prop} {n : Nat} {a : Stm} (hp : ∀ b, p b → plainB b = true) (h : FT p n a) : plainB a = true := by
  rcases h with rfl | rfl | h
  · rfl
  · rfl
  · exact tr_plain hp h
theorem atom_plain {nm : List Str} {N : Nat} {a : Stm} (h : Atom nm N a) : plainB a = true := by cases h <;> rfl
theorem satom_plain {nm : List Str} {N : Nat} {a : Stm} (h : Satom nm N a) : plainB a = true := by cases h <;> rfl
/-- a right sum of names nm, numbers at most N -/
def SumR (nm : List Str) (N : Nat) (s : Sm) : Prop := Norm s.2 ∧ (∀ p ∈ s.2, p.1 ∈ nm) ∧ Bs N s
theorem satom_evu {nm : List Str} {N : Nat} {a : Stm} (h : Satom nm N a) : Evu (SumR nm N) a := by
  cases h with
  | above h => exact .above ⟨h.no, h.sub, h.bd⟩
  | goes h => exact .goes ⟨h.no, h.sub, h.bs⟩ (by have := h.m2; omega)
  | ng h => exact .neg (.goes ⟨h.no, h.sub, h.bs⟩ (by have := h.m2; omega))
theorem atom_evu {nm : List Str} {N : Nat} {a : Stm} (h : Atom nm N a) : Evu (SumR nm N) a := by
  cases h with
  | above h | nought h => first | exact .above ⟨h.no, h.sub, h.bd⟩ | exact .nought ⟨h.no, h.sub, h.bd⟩
  | goes h => exact .goes ⟨h.no, h.sub, h.bs⟩ (by have := h.m2; omega)
  | nn h => exact .neg (.nought ⟨h.no, h.sub, h.bd⟩)
  | ng h => exact .neg (.goes ⟨h.no, h.sub, h.bs⟩ (by have := h.m2; omega))
/-! ### the names of a plain statement -/
mutual
def allN : Stm → List Str
  | .above s => s.2.map (·.1)
  | .nought s => s.2.map (·.1)
  | .goes _ s => s.2.map (·.1)
  | .neg a => allN a
  | .con _ l => allNs l
  | .bnd _ _ _ => []
def allNs : List Stm → List Str
  | [] => []
  | a :: l => allN a ++ allNs l
end
theorem allNs_mem {x : Str} : ∀ {l : List Stm}, x ∈ allNs l ↔ ∃ a ∈ l, x ∈ allN a
  | [] => by simp [allNs]
  | a :: l => by
    have h := allNs_mem (x := x) (l := l)
    show x ∈ allN a ++ allNs l ↔ _
    rw [List.mem_append, h]
    simp
theorem allN_fr {q : Stm → Prop} {a : Stm} (e : Ed q a) (x : Str) : x ∈ allN a ↔ XS.Fr x a := by
  induction e with
  | @fin a e _ =>
    cases a with
    | above s => exact ⟨.above, fun h => by cases h with | above h => exact h⟩
    | nought s => exact ⟨.nought, fun h => by cases h with | nought h => exact h⟩
    | goes m s => exact ⟨.goes, fun h => by cases h with | goes h => exact h⟩
    | neg _ | con _ _ | bnd _ _ _ => cases e
  | neg _ ih => exact ⟨fun h => .neg (ih.mp h), fun h => by cases h with | neg h => exact ih.mpr h⟩
  | @con o l _ _ ih =>
    show x ∈ allNs l ↔ _
    rw [allNs_mem]
    exact ⟨fun ⟨c, hc, h⟩ => .con hc ((ih c hc).mp h), fun h => by cases h with | con hc h => exact ⟨_, hc, (ih _ hc).mpr h⟩⟩
/-- the free names among nm -/
def frN (nm : List Str) (a : Stm) : List Str := nm.filter fun x => decide (x ∈ allN a)
theorem Ed.free {q : Stm → Prop} {a : Stm} (e : Ed q a) : ∀ {M : List Str}, (∀ x ∈ allN a, x ∈ M) → Ed (fun c => q c ∧ ∀ x ∈ (sumOf c).2.map (·.1), x ∈ M) a := by
  induction e with
  | @fin a e h =>
    intro M hM
    refine .fin e ⟨h, fun x hx => hM x ?_⟩
    cases a with
    | above s | nought s | goes m s => exact hx
    | neg _ | con _ _ | bnd _ _ _ => cases e
  | neg _ ih => exact fun hM => .neg (ih hM)
  | @con o l _ hl ih => exact fun hM => .con (fun c hc => ih c hc fun x hx => hM x (allNs_mem.mpr ⟨c, hc, hx⟩)) hl
/-! ### promises of the law's own looks -/
def sp_plain_is (n : Nat) (K : PySem.W.Frag) : Sp := fun vs H Q _ => ∃ (v : V) (nl : Addr) (a : Stm) (names : List Str), vs = [v, .ref nl] ∧ Dp K H v (toD a) ∧ SqL K H nl (names.map V.str) ∧ Evu (fun s => Norm s.2 ∧ ∀ p ∈ s.2, p.1 ∈ names ∧ p.1.cps.toList ≠ []) a ∧ plainB a = true ∧ dep a ≤ n ∧ Q (.bl true) H
/-- straight: no nought, not ahead of goes alone -/
inductive Strt : Stm → Prop
  | above {s : Sm} : Strt (.above s)
  | goes {m : Int} {s : Sm} : Strt (.goes m s)
  | ng {m : Int} {s : Sm} : Strt (.neg (.goes m s))
  | con {o : Bool} {l : List Stm} : (∀ a ∈ l, Strt a) → Strt (.con o l)
def sp_straight_is (n : Nat) (K : PySem.W.Frag) : Sp := fun vs H Q _ => ∃ (v : V) (a : Stm), vs = [v] ∧ Dp K H v (toD a) ∧ Strt a ∧ dep a ≤ n ∧ Q (.bl true) H
theorem tr_strt {nm : List Str} {N n : Nat} {a : Stm} (h : Tr (Satom nm N) n a) : Strt a := by
  induction h with
  | atom h _ => cases h <;> constructor
  | con _ _ ih => exact .con ih
theorem ft_strt {nm : List Str} {N n : Nat} {a : Stm} (h : FT (Satom nm N) n a) : Strt a := by
  rcases h with rfl | rfl | h
  · exact .con fun b hb => by cases hb
  · exact .con fun b hb => by cases hb
  · exact tr_strt h
def sp_refused6 (K : PySem.W.Frag) : Sp := fun vs H Q _ => ∃ (v : V) (a : Stm), vs = [v] ∧ Dp K H v (toD a) ∧ plainB a = false ∧ dep a ≤ 36 ∧ ∀ H', Same H H' → Q (.str "not plain") H'
end XS

namespace XS
open PySem PySem.Spec PyProof.Rows L2
/-- straight, names of some list -/
def sp_straightE (N : Nat) (K : PySem.W.Frag) (NP : Addr) : Sp := fun vs H Q E => ∃ nm : List Str, nm.length ≤ 32 ∧ sp_straight nm N K NP vs H Q E
end XS

namespace XH
open PySem PySem.Spec PyProof.Rows L2 He
/-- many yeses -/
def allB : List Bool → Bool
  | [] => true
  | b :: l => (match b with
    | true => allB l
    | false => false)
theorem allB_at {l : List Bool} (h : allB l = true) (i : Nat) {b : Bool} (e : l[i]? = some b) : b = true := by
  induction l generalizing i with
  | nil => cases e
  | cons c l ih =>
    cases c with
    | false => cases (show false = true from h)
    | true =>
      have h1 : allB l = true := h
      cases i with
      | zero => cases e; rfl
      | succ i => exact ih h1 i e
/-! ### the hook: what these names reach in two steps, and one more Bool of it -/
def asZ (g : Addr → Option Obj) (xs : List Str) : List Addr := mainGlobals :: xs.flatMap fun x => ga (frG g [mainGlobals]) x :: (match g (ga (frG g [mainGlobals]) x) with
  | some o => refsO o
  | none => [])
def frZ (g : Addr → Option Obj) (xs : List Str) : PySem.W.Frag := frG g (asZ g xs)
abbrev AlZ : Type := AlT × Bool
def obsZ (xs : List Str) (fa : List Fa) (fn : List DefD) (ts : List Tab) (ex : PySem.W.Frag → Bool) (g : Addr → Option Obj) : AlZ := (obsT fa fn ts (frZ g xs), ex (frZ g xs))
def hookZ (xs : List Str) (fa : List Fa) (fn : List DefD) (ts : List Tab) (ex : PySem.W.Frag → Bool) : PySem.W.Hook where
  α := AlZ
  obs := fun s => obsZ xs fa fn ts ex s.heap.get?
  val := fun w => (valT fn ts w, true)
  says := fun w h => ∃ K : PySem.W.Frag, K.In h ∧ SaysT fa fn ts w K ∧ ex K = true
  of := fun _ _ e => ⟨_, frG_in, congrArg (fun z : AlZ => z.1) e, congrArg (fun z : AlZ => z.2) e⟩
  keeps := fun _ _ _ ⟨K, hK, c⟩ k => ⟨K, PySem.W.Frag.In.keeps hK k, c⟩
theorem obsZ_eq {xs : List Str} {fa : List Fa} {fn : List DefD} {ts : List Tab} {ex : PySem.W.Frag → Bool} {g : Addr → Option Obj} {s : Shared} (h : ∀ a, g a = s.heap.get? a) : obsZ xs fa fn ts ex g = (hookZ xs fa fn ts ex).obs s := by
  have e : g = s.heap.get? := funext h
  rw [e] <;> rfl
theorem map3 {α β γ δ : Type} {o : Option α} {f : α → β} {g : α → γ} {k : α → δ} {a : β} {b : γ} {c : δ} (h1 : o.map f = some a) (h2 : o.map g = some b) (h3 : o.map k = some c) : o.map (fun x => (f x, g x, k x)) = some (a, b, c) := by
  cases o with
  | none => cases h1
  | some x =>
    obtain rfl := Option.some.inj h1
    obtain rfl := Option.some.inj h2
    obtain rfl := Option.some.inj h3
    rfl
def dD (x q : Str) (st : Stmt) : DefD := ⟨(x, none), q, q, defArgs st, defBody st, defScope st, [], []⟩
/-! ### tuples by address -/
def tupA (K : PySem.W.Frag) (a : Addr) (vs : List V) : Bool := match K.lookup a with
  | some o => (match o.cls with
    | .type c => (match o.data with
      | .seq its _ => decide (c = "tuple") && (decide (its.size ≤ sizeLine) && relAll vs its.toList)
      | _ => false)
    | _ => false)
  | none => false
/-- the i-th item's address -/
def itA (K : PySem.W.Frag) (a : Addr) (i : Nat) : Addr := match K.lookup a with
  | some o => (match o.data with
    | .seq its _ => (match its.toList[i]? with
      | some (.ref b) => b
      | _ => 0)
    | _ => 0)
  | none => 0
def ecL (K : PySem.W.Frag) (D : Addr) : List Bool := [
  PySem.W.excIn K D [.type "ValueError", .type "Exception", .type "BaseException", .type "object"] "ValueError.__new__",
  PySem.W.keepIn K (.ref D), decide (PySem.W.subIn K (.ref D) (.type "BaseException") = some true), decide (PySem.W.typeIn K (.ref D) = some (.type "type")), PySem.W.hasDictIn K D,
  decide (PySem.W.findIn K (.ref D) "__getattribute__" = some (some (.builtin "BaseException.__getattribute__"))), decide (PySem.W.findIn K (.ref D) "__getattr__" = some none), decide (PySem.W.findIn K (.ref D) "__class__" = some (some (.builtin "object.__class__"))),
  decide (PySem.W.mroIn K D (.type "object") = some true), decide (PySem.W.subIn K (.ref D) (.type "ValueError") = some true), decide (PySem.W.subIn K (.ref D) (.ref D) = some true)]
def subE (K : PySem.W.Frag) (a b : Addr) (v : Bool) : Bool := decide (PySem.W.subIn K (.ref a) (.ref b) = some v)
def neA (a b : Addr) : Bool := !(Value.ref a == Value.ref b)
def errL (K : PySem.W.Frag) : List Bool := [
  (Fa.glo "SomeError").ok K, (Fa.glo "NoValue").ok K, (Fa.glo "NotPlain").ok K, (Fa.glo "NoNote").ok K,
  decide (PySem.W.specialIn K (.builtin "object.__class__") "__get__" = some (some (.builtin "getset_descriptor.__get__"))), decide (PySem.W.takesIn K (.builtin "object.__class__") = some true),
  decide (PySem.W.subIn K (.ref (ga K "SomeError")) (.type "BaseException") = some true), PySem.W.hasDictIn K (ga K "SomeError"), decide (PySem.W.typeIn K (.ref (ga K "SomeError")) = some (.type "type")),
  allB (ecL K (ga K "NoValue")), allB (ecL K (ga K "NotPlain")), allB (ecL K (ga K "NoNote")),
  subE K (ga K "NoValue") (ga K "SomeError") true, subE K (ga K "NotPlain") (ga K "SomeError") true, subE K (ga K "NoNote") (ga K "SomeError") true,
  subE K (ga K "NoValue") (ga K "NotPlain") false, subE K (ga K "NoValue") (ga K "NoNote") false, subE K (ga K "NotPlain") (ga K "NoValue") false, subE K (ga K "NotPlain") (ga K "NoNote") false, subE K (ga K "NoNote") (ga K "NoValue") false, subE K (ga K "NoNote") (ga K "NotPlain") false,
  neA (ga K "NoValue") (ga K "NotPlain"), neA (ga K "NoValue") (ga K "NoNote"), neA (ga K "NotPlain") (ga K "NoValue"), neA (ga K "NotPlain") (ga K "NoNote"), neA (ga K "NoNote") (ga K "NoValue"), neA (ga K "NoNote") (ga K "NotPlain")]
def conL (K : PySem.W.Frag) : List Bool := [
  (Fa.glo "OVER_SUMS").ok K, (Fa.glo "BINDING").ok K, tupA K (ga K "OVER_SUMS") [.str "above", .str "nought", .str "goes"], tupA K (ga K "BINDING") [.str "some", .str "all"]]
def tfL (K : PySem.W.Frag) : List Bool := [
  (Fa.glo "TRUE").ok K, (Fa.glo "FALSE").ok K, (Fa.glo "OTHER").ok K,
  tupA K (ga K "TRUE") [.str "and", .ref (itA K (ga K "TRUE") 1)], tupA K (itA K (ga K "TRUE") 1) [], tupA K (ga K "FALSE") [.str "or", .ref (itA K (ga K "FALSE") 1)], tupA K (itA K (ga K "FALSE") 1) [],
  valsB K (ga K "OTHER") [("and", .str "or"), ("or", .str "and")],
  decide (PySem.W.nsIn K (ga K "OTHER") "above" = some none), decide (PySem.W.nsIn K (ga K "OTHER") "nought" = some none), decide (PySem.W.nsIn K (ga K "OTHER") "goes" = some none), decide (PySem.W.nsIn K (ga K "OTHER") "not" = some none),
  decide (PySem.W.nsIn K (ga K "OTHER") "some" = some none), decide (PySem.W.nsIn K (ga K "OTHER") "all" = some none)]
/-- a built-in of a module -/
def bltB (K : PySem.W.Frag) (x : Str) (b : String) : Bool := decide (PySem.W.nsIn K mainGlobals x = some (some (.builtin b)))
def blL : List Str := ["ValueError", "len", "isinstance", "int", "str", "bool", "list", "tuple", "dict", "set", "range", "sorted", "sum"]
def bl2L : List Str := ["abs", "max", "min"]
def freeB (K : PySem.W.Frag) (xs : List Str) : Bool := xs.all fun x => (Fa.free x).ok K
/-! ### a hook that looks further at one class, and at tables -/
def asC (g : Addr → Option Obj) (x : Str) : List Addr := growG g (growG g (growG g [ga (frG g [mainGlobals]) x]))
def asY (g : Addr → Option Obj) (xs : List Str) (cl : Str) : List Addr := asZ g xs ++ asC g cl
def obsY (xs : List Str) (cl : Str) (fa : List Fa) (fn : List DefD) (ts : List Tab) (tf : List Defn) (ex : PySem.W.Frag → Bool) (g : Addr → Option Obj) : AlX := (obsT fa fn ts (frT g (asY g xs cl)), ex (frT g (asY g xs cl)) && tabsB g tf (frT g (asY g xs cl)))
theorem saysY_of {as : List Addr} {fa : List Fa} {fn : List DefD} {ts : List Tab} {tf : List Defn} {ex : PySem.W.Frag → Bool} {w : World} {h : Heap} (e : (obsT fa fn ts (frT h.get? as), ex (frT h.get? as) && tabsB h.get? tf (frT h.get? as)) = valX fn ts w) : SaysX fa fn ts tf ex w h (frT h.get? as) := by
  have e1 : obsT fa fn ts (frT h.get? as) = valT fn ts w := congrArg (fun z : AlX => z.1) e
  have e2 : (ex (frT h.get? as) && tabsB h.get? tf (frT h.get? as)) = true := congrArg (fun z : AlX => z.2) e
  obtain ⟨h1, h2⟩ := ba e2
  have key : ∀ p ∈ tf, PySem.W.codeHdIn (frT h.get? as) (cT (frT h.get? as) p).1 (cT (frT h.get? as) p).2 = true ∧ ∃ o, h.get? (cT (frT h.get? as) p).2 = some o ∧ emptyTab o = true := fun p hp => by
    obtain ⟨h3, h4⟩ := ba (List.all_eq_true.mp h2 p hp)
    refine ⟨h3, ?_⟩
    cases q : h.get? (cT (frT h.get? as) p).2 with
    | none =>
      rw [q] at h4
      cases h4
    | some o =>
      rw [q] at h4
      exact ⟨o, rfl, h4⟩
  exact ⟨e1, h1, fun p hp => (key p hp).1, fun p hp => by
    obtain ⟨_, o, q, z⟩ := key p hp
    exact frT_none q z, fun p hp => by
    obtain ⟨_, o, q, z⟩ := key p hp
    rw [q, emptyTab_eq z]⟩
def hookY (xs : List Str) (cl : Str) (fa : List Fa) (fn : List DefD) (ts : List Tab) (tf : List Defn) (ex : PySem.W.Frag → Bool) : PySem.W.Hook where
  α := AlX
  obs := fun s => obsY xs cl fa fn ts tf ex s.heap.get?
  val := fun w => valX fn ts w
  says := fun w h => ∃ K : PySem.W.Frag, K.In h ∧ SaysX fa fn ts tf ex w h K
  of := fun _ _ e => ⟨_, frT_in, saysY_of e⟩
  keeps := fun _ _ _ ⟨K, hK, c⟩ k => ⟨K, PySem.W.Frag.In.keeps hK k, ⟨c.t, c.more, c.hd, c.out, fun p hp => k _ _ (c.empty p hp)⟩⟩
theorem obsY_eq {xs : List Str} {cl : Str} {fa : List Fa} {fn : List DefD} {ts : List Tab} {tf : List Defn} {ex : PySem.W.Frag → Bool} {g : Addr → Option Obj} {s : Shared} (h : ∀ a, g a = s.heap.get? a) : obsY xs cl fa fn ts tf ex g = (hookY xs cl fa fn ts tf ex).obs s := by
  have e : g = s.heap.get? := funext h
  rw [e] <;> rfl
def dM (C : Str) (q : Str) (st : Stmt) : DefD := ⟨(C, some "__init__"), "__init__", q, defArgs st, defBody st, defScope st, [], []⟩
def knL (K : PySem.W.Frag) (C : Str) (fs : List Str) : List Bool := [(Fa.glo C).ok K, (Fa.cls C).ok K, (Fa.mkr C).ok K] ++ fs.map fun f => (Fa.noat C f).ok K
end XH

namespace XH
open PySem PySem.Spec PyProof.Rows L2 He XS
/-! ### defs -/
theorem fun_at {K : PySem.W.Frag} {x : Str} {st : Stmt} {f : Addr} {fd : FuncData} (F : FunD K x x (defArgs st) (defBody st) (defScope st) [] [] f fd) : Fun K x x st f fd := by
  obtain ⟨oc, od, dV, kV, doc, pm, an, cdv, ct, osl, e, lk, hc, hD, _⟩ := F.ex
  rcases hD with ⟨_, rfl⟩ | ⟨e, _⟩
  · exact ⟨⟨oc, od, kV, doc, pm, an, cdv, ct, osl, e, lk, hc⟩, F.kp⟩
  · exact absurd rfl e
section
variable {fa : List Fa} {fn : List DefD} {ts : List Tab} {w : World} {K : PySem.W.Frag} {h : Heap} {mg : Str → Option Value}
theorem f_at (X : K.In h) (G : h.Ns mainGlobals mg) (c : SaysT fa fn ts w K) (i : Nat) {x : Str} {st : Stmt} (hi : fn[i]? = some (dD x x st)) (g : (Fa.glo x).ok K = true) {ps : List Str}
    (hb : ∀ (kV doc pm : Value) (an : Option Addr) (cdv ct : Value) (us : List Value), us.length = ps.length → bindArgs (PySem.W.fnOf x x (defArgs st) (defBody st) (defScope st) .none kV doc pm an cdv ct) ⟨us, []⟩ = pure (ps.zip us)) : FunAt K mg x st ps := by
  obtain ⟨fd, F⟩ := c.d.def_ i hi
  exact ⟨_, fd, fun_at F, glo_ok X G g, F.bindsN hb⟩
theorem fs_at (X : K.In h) (G : h.Ns mainGlobals mg) (c : SaysT fa fn ts w K) (i : Nat) {x q : Str} {st : Stmt} (hi : fn[i]? = some (dD x q st)) (g : (Fa.glo x).ok K = true) {ps : List Str}
    (hb : ∀ (kV doc pm : Value) (an : Option Addr) (cdv ct : Value) (us : List Value), us.length = ps.length → bindArgs (PySem.W.fnOf q q (defArgs st) (defBody st) (defScope st) .none kV doc pm an cdv ct) ⟨us, []⟩ = pure (ps.zip us)) : FunAs K mg x q st ps := by
  obtain ⟨fd, F⟩ := c.d.def_ i hi
  exact ⟨_, fd, fun_at F, glo_ok X G g, F.bindsN hb⟩
theorem law_at (X : K.In h) (G : h.Ns mainGlobals mg) (c : SaysT fa fn ts w K) (i : Nat) {x p : Str} {st : Stmt} (hi : fn[i]? = some (dD x x st)) (g : (Fa.glo x).ok K = true) {f : Addr} (hf : mg x = some (.ref f))
    (hb : ∀ (kV doc pm : Value) (an : Option Addr) (cdv ct : Value) (us : List Value), us.length = [p].length → bindArgs (PySem.W.fnOf x x (defArgs st) (defBody st) (defScope st) .none kV doc pm an cdv ct) ⟨us, []⟩ = pure ([p].zip us)) :
    ∃ fd, Fun K x x st f fd ∧ ∀ (s : Shared) (v : Value), BindsTo s fd ⟨[v], []⟩ [(p, v)] := by
  obtain ⟨fd, F⟩ := c.d.def_ i hi
  have e := hf.symm.trans (glo_ok X G g)
  cases e
  have b := FunD.bindsA (ps := [p]) F hb
  exact ⟨fd, fun_at F, fun s v => b s [v] rfl⟩
end
theorem tupA_ok {K : PySem.W.Frag} {a : Addr} {vs : List V} (h : tupA K a vs = true) (H : Hp) : SqT K H a vs := by
  unfold tupA at h
  cases q : K.lookup a with
  | none => rw [q] at h; cases h
  | some o =>
    rw [q] at h
    obtain ⟨oc, od, dt, osl⟩ := o
    cases oc with
    | type c =>
      cases dt with
      | seq its n =>
        obtain ⟨h1, h2⟩ := ba (show (decide (c = "tuple") && (decide (its.size ≤ sizeLine) && relAll vs its.toList)) = true from h)
        obtain ⟨h3, h4⟩ := ba h2
        exact .inr ⟨_, its, n, q, congrArg Value.type (of_decide_eq_true h1), rfl, of_decide_eq_true h3, relAll_ok h4⟩
      | _ => cases h
    | _ => cases h
/-! ### the classes of errors -/
theorem ec_ok {K : PySem.W.Frag} {D : Addr} (h : allB (ecL K D) = true) : EcF K D :=
  ⟨allB_at h 0 rfl, allB_at h 1 rfl, of_decide_eq_true (allB_at h 2 rfl), of_decide_eq_true (allB_at h 3 rfl), allB_at h 4 rfl, of_decide_eq_true (allB_at h 5 rfl), of_decide_eq_true (allB_at h 6 rfl), of_decide_eq_true (allB_at h 7 rfl), of_decide_eq_true (allB_at h 8 rfl), of_decide_eq_true (allB_at h 9 rfl), of_decide_eq_true (allB_at h 10 rfl)⟩
theorem neA_ok {a b : Addr} (h : neA a b = true) : (Value.ref a == Value.ref b) = false := by
  unfold neA at h
  cases q : (Value.ref a == Value.ref b) with
  | false => rfl
  | true => rw [q] at h; cases h
theorem err_ok {K : PySem.W.Frag} {h : Heap} {mg : Str → Option Value} (X : K.In h) (G : h.Ns mainGlobals mg) (c : allB (errL K) = true) : Er K mg (ga K "SomeError") (ga K "NoValue") (ga K "NotPlain") (ga K "NoNote") :=
  er_mk (glo_ok X G (allB_at c 0 rfl)) (glo_ok X G (allB_at c 1 rfl)) (glo_ok X G (allB_at c 2 rfl)) (glo_ok X G (allB_at c 3 rfl)) (of_decide_eq_true (allB_at c 4 rfl)) (of_decide_eq_true (allB_at c 5 rfl)) (of_decide_eq_true (allB_at c 6 rfl)) (allB_at c 7 rfl) (of_decide_eq_true (allB_at c 8 rfl))
    (ec_ok (allB_at c 9 rfl)) (ec_ok (allB_at c 10 rfl)) (ec_ok (allB_at c 11 rfl)) (of_decide_eq_true (allB_at c 12 rfl)) (of_decide_eq_true (allB_at c 13 rfl)) (of_decide_eq_true (allB_at c 14 rfl)) (of_decide_eq_true (allB_at c 15 rfl)) (of_decide_eq_true (allB_at c 16 rfl)) (of_decide_eq_true (allB_at c 17 rfl))
    (of_decide_eq_true (allB_at c 18 rfl)) (of_decide_eq_true (allB_at c 19 rfl)) (of_decide_eq_true (allB_at c 20 rfl)) (neA_ok (allB_at c 21 rfl)) (neA_ok (allB_at c 22 rfl)) (neA_ok (allB_at c 23 rfl)) (neA_ok (allB_at c 24 rfl)) (neA_ok (allB_at c 25 rfl)) (neA_ok (allB_at c 26 rfl))
/-! ### constants -/
theorem con_ok {K : PySem.W.Frag} {h : Heap} {mg : Str → Option Value} (X : K.In h) (G : h.Ns mainGlobals mg) (c : allB (conL K) = true) : Cs K mg (ga K "OVER_SUMS") (ga K "BINDING") :=
  ⟨glo_ok X G (allB_at c 0 rfl), glo_ok X G (allB_at c 1 rfl), tupA_ok (allB_at c 2 rfl), tupA_ok (allB_at c 3 rfl)⟩
theorem tf_ok {K : PySem.W.Frag} {w : World} {h : Heap} {mg : Str → Option Value} (X : K.In h) (G : h.Ns mainGlobals mg) (c : allB (tfL K) = true) (t : ∃ es n, KDict K w (ga K "OTHER") es n) : Ct K w mg (ga K "TRUE") (ga K "FALSE") (ga K "OTHER") := by
  obtain ⟨es, n, D⟩ := t
  have vv := allB_at c 7 rfl
  have no : ∀ x : Str, PySem.W.nsIn K (ga K "OTHER") x = some none → KHas K w (ga K "OTHER") x false := fun x e => ⟨es, n, _, D.at_, D.lit, D.low, e, rfl⟩
  have dct : ∀ o, KDct K w (ga K "OTHER") (conW o) (.str (conW (!o))) := fun o => by
    obtain ⟨u, e1, e2⟩ := valsB_ok vv (q := (conW o, .str (conW (!o)))) (by cases o; exact .tail _ (.head _); exact .head _)
    exact ⟨es, n, u, D.at_, D.lit, e1, e2⟩
  refine ⟨glo_ok X G (allB_at c 0 rfl), glo_ok X G (allB_at c 1 rfl), glo_ok X G (allB_at c 2 rfl), fun H => ?_, fun H => ?_, fun o => ?_, fun x hx => ?_, dct⟩
  · exact .tup (tupA_ok (allB_at c 3 rfl) H) (.cons (.str _) (.one (.tup (tupA_ok (allB_at c 4 rfl) H) .nil)))
  · exact .tup (tupA_ok (allB_at c 5 rfl) H) (.cons (.str _) (.one (.tup (tupA_ok (allB_at c 6 rfl) H) .nil)))
  · obtain ⟨_, _, u, _, _, e, _⟩ := dct o
    exact ⟨es, n, _, D.at_, D.lit, D.low, e, rfl⟩
  · simp only [List.mem_cons, List.not_mem_nil, or_false] at hx
    rcases hx with rfl | rfl | rfl | rfl | rfl | rfl
    · exact no _ (of_decide_eq_true (allB_at c 8 rfl))
    · exact no _ (of_decide_eq_true (allB_at c 9 rfl))
    · exact no _ (of_decide_eq_true (allB_at c 10 rfl))
    · exact no _ (of_decide_eq_true (allB_at c 11 rfl))
    · exact no _ (of_decide_eq_true (allB_at c 12 rfl))
    · exact no _ (of_decide_eq_true (allB_at c 13 rfl))
theorem blt_ok {K : PySem.W.Frag} {h : Heap} {mg : Str → Option Value} (X : K.In h) (G : h.Ns mainGlobals mg) {x : Str} {b : String} (c : bltB K x b = true) : mg x = some (.builtin b) := PySem.W.mg_of X G (of_decide_eq_true c)
/-! ### built-in names -/
theorem free_at {K : PySem.W.Frag} {h : Heap} {mg : Str → Option Value} (X : K.In h) (G : h.Ns mainGlobals mg) {xs : List Str} (c : freeB K xs = true) (i : Nat) {x : Str} (e : xs[i]? = some x) : mg x = none :=
  free_ok X G (List.all_eq_true.mp c x (List.mem_of_getElem? e))
theorem bl_ok {K : PySem.W.Frag} {h : Heap} {mg : Str → Option Value} (X : K.In h) (G : h.Ns mainGlobals mg) (c : freeB K blL = true) : Bl mg := by
  constructor
  · exact free_at X G c 0 rfl
  · exact free_at X G c 1 rfl
  · exact free_at X G c 2 rfl
  · exact free_at X G c 3 rfl
  · exact free_at X G c 4 rfl
  · exact free_at X G c 5 rfl
  · exact free_at X G c 6 rfl
  · exact free_at X G c 7 rfl
  · exact free_at X G c 8 rfl
  · exact free_at X G c 9 rfl
  · exact free_at X G c 10 rfl
  · exact free_at X G c 11 rfl
  · exact free_at X G c 12 rfl
theorem bl2_ok {K : PySem.W.Frag} {h : Heap} {mg : Str → Option Value} (X : K.In h) (G : h.Ns mainGlobals mg) (c : freeB K bl2L = true) : Bl2 mg :=
  ⟨free_at X G c 0 rfl, free_at X G c 1 rfl, free_at X G c 2 rfl⟩
end XH

local macro_rules | `(tactic| walk_at "go1") => `(tactic| first
  | ((with_reducible apply XS.g_var); (with_reducible refine' XS.x_var ?e ?_); (case e => exact rfl))
  | with_reducible apply XS.x_c
  | with_reducible apply XS.x_op
  | with_reducible apply XS.x_I0
  | with_reducible apply XS.x_gname
  | with_reducible apply XS.x_sAsg
  | with_reducible apply XS.x_cons
  | with_reducible apply XS.x_nil
  | with_reducible apply XS.x_k
  | with_reducible apply XS.x_k2
  | with_reducible apply XS.x_ki
  | with_reducible apply XS.x_eqI
  | with_reducible apply XS.x_neI
  | with_reducible apply XS.x_eqS
  | with_reducible apply XS.x_neS
  | with_reducible apply XS.x_test
  | with_reducible apply XS.x_B
  | with_reducible apply XS.x_sIf
  | with_reducible apply XS.x_ret
  | with_reducible apply XS.x_call
  | with_reducible apply XS.x_cb
  | with_reducible apply XS.x_tup
  | with_reducible apply XS.x_lst
  | with_reducible apply XS.x_T
  | with_reducible apply XS.x_F
  | with_reducible apply XS.x_Tn
  | with_reducible apply XS.x_Fn
  | ((with_reducible apply XS.g_I); (with_reducible refine XS.x_I ?c ?_); (case c => first | decide | exact ⟨by decide, by decide⟩ | exact .inr ⟨by decide, by decide⟩ | exact .inl ⟨by decide, by decide⟩))
  | with_reducible apply XS.x_next
  | with_reducible apply XS.x_sNext
  | with_reducible apply XS.x_par
  | with_reducible apply XS.x_sPar
  | with_reducible apply XS.x_cont
  | with_reducible apply XS.x_sDrop
  | with_reducible apply XS.x_sSeq
  | with_reducible apply XS.x_asg
  | with_reducible apply XS.x_if
  | with_reducible apply XS.x_drop
  | with_reducible apply XS.x_and
  | with_reducible apply XS.x_or
  | with_reducible apply XS.x_not
  | with_reducible apply XS.x_andV
  | with_reducible apply XS.x_orV
  | with_reducible apply XS.x_notV
  | with_reducible apply XS.x_ifE
  | with_reducible apply XS.x_un
  | with_reducible apply XS.x_U
  | with_reducible apply XS.x_sl
  | with_reducible apply XS.x_part
  | with_reducible apply XS.x_nopart
  | with_reducible apply XS.x_bm
  | with_reducible apply XS.x_bm0
  | with_reducible apply XS.x_sFor
  | with_reducible apply XS.x_for
  | with_reducible apply XS.x_iL
  | with_reducible apply XS.x_iT
  | with_reducible apply XS.x_iR1
  | with_reducible apply XS.x_iR2
  | with_reducible apply XS.x_gcons
  | with_reducible apply XS.x_gnil
  | with_reducible apply XS.x_lc
  | with_reducible apply XS.x_callS
  | with_reducible apply XS.x_callP
  | with_reducible apply XS.x_M1
  | with_reducible apply XS.x_star
  | with_reducible apply XS.x_tyes
  | with_reducible apply XS.x_dput
  | with_reducible apply XS.x_sdput
  | with_reducible apply XS.x_dget2
  | with_reducible apply XS.x_dget
  | with_reducible apply XS.x_dnew
  | with_reducible apply XS.x_din
  | with_reducible apply XS.x_dnotin
  | with_reducible apply XS.x_dpop1
  | with_reducible refine XS.x_nx ?_
  | with_reducible refine XS.x_rt ?_
  | with_reducible refine XS.x_bk ?_
  | with_reducible refine XS.x_ct ?_
  | with_reducible apply XS.x_sAny)
local macro_rules | `(tactic| walk_at "go") => `(tactic| repeat walk_at "go1")
local macro_rules | `(tactic| walk_at "all") => `(tactic| repeat (first | walk_at "go1" | (refine XS.x_no (by decide) ?_) | (refine XS.x_yes (by decide) ?_)))
namespace R1
open PySem PySem.Spec PyProof.Rows L2 XS
def topS (i : Nat) : Stmt := PySem.Challenge.pw_somenumber_k06_straightened.main.body.getD i (.Pass ⟨0, 0, 0, 0⟩)
section
variable {P : Program} {w : World} {K : PySem.W.Frag} {mg : Str → Option Value} {base : Heap}

abbrev Rr : PySem.W.OpenRow := PySem.W.OpenLaw.row PySem.Challenge.rw_somenumber_k06_straightened
def fn0 : List He.DefD := [XH.dD "inverse" "inverse" (topS 2), XH.dD "made" "made" (topS 10), XH.dD "added" "added" (topS 11), XH.dD "times" "times" (topS 12), XH.dD "above" "above" (topS 18), XH.dD "nought" "nought" (topS 19), XH.dD "goes" "goes" (topS 20), XH.dD "simple" "simple" (topS 21), XH.dD "contrary" "contrary" (topS 22), XH.dD "about" "about" (topS 23), XH.dD "sum_of" "sum_of" (topS 24), XH.dD "turned" "turned" (topS 26), XH.dD "common_share" "common_share" (topS 27), XH.dD "_factor" "_factor" (topS 28), XH.dD "decides" "decides" (topS 31), XH.dD "joined" "joined" (topS 32), XH.dD "opposite" "opposite" (topS 33), XH.dD "changed" "changed" (topS 34), XH.dD "is_plain" "is_plain" (topS 63), XH.dD "refuse_unless_plain" "refuse_unless_plain" (topS 65), XH.dD "parts_within" "parts_within" (topS 66), XH.dD "slimmed" "slimmed" (topS 77), XH.dD "some_number" "some_number" (topS 82), XH.dD "depth" "depth" (topS 101), XH.dD "shallow" "shallow" (topS 102), XH.dD "fitting_depths" "_fitting" (topS 103), XH.dD "straight" "straight" (topS 109), XH.dD "fitting_taking" "_fitting" (topS 110), XH.dD "_formed" "_formed" (topS 112), XH.dD "_without_nought" "_without_nought" (topS 113)]
def fn1 : List He.DefD := [XH.dD "_law_cell_at" "_law_cell_at" (topS 115), XH.dD "_law_whole" "_law_whole" (topS 116), XH.dD "_law_names_by" "_law_names_by" (topS 117), XH.dD "_law_sum_by" "_law_sum_by" (topS 118), XH.dD "_law_end_by" "_law_end_by" (topS 119), XH.dD "_law_plain_by" "_law_plain_by" (topS 120), XH.dD "_law_value" "_law_value" (topS 121), XH.dD "_law_true" "_law_true" (topS 122), XH.dD "_law_free" "_law_free" (topS 123), XH.dD "_law_sum_is" "_law_sum_is" (topS 124), XH.dD "_law_plain_is" "_law_plain_is" (topS 125), XH.dD "_law_word_of" "_law_word_of" (topS 126), XH.dD "_law_big_by" "_law_big_by" (topS 127), XH.dD "_law_bound_by" "_law_bound_by" (topS 128), XH.dD "_law_edge_by" "_law_edge_by" (topS 129), XH.dD "_law_straight_is" "_law_straight_is" (topS 130), XH.dD "_law_refused" "_law_refused" (topS 131), XH.dD "law" "law" (topS 132)]
def fnL : List He.DefD := fn0 ++ fn1
def fa0 : List He.Fa := [.glo "inverse", .glo "made", .glo "added", .glo "times", .glo "above", .glo "nought", .glo "goes", .glo "simple", .glo "contrary", .glo "about", .glo "sum_of", .glo "turned", .glo "common_share", .glo "_factor", .glo "decides", .glo "joined", .glo "opposite", .glo "changed", .glo "is_plain", .glo "refuse_unless_plain", .glo "parts_within", .glo "slimmed", .glo "some_number", .glo "depth", .glo "shallow", .glo "fitting_depths", .glo "straight", .glo "fitting_taking", .glo "_formed", .glo "_without_nought"]
def fa1 : List He.Fa := [.glo "_law_cell_at", .glo "_law_whole", .glo "_law_names_by", .glo "_law_sum_by", .glo "_law_end_by", .glo "_law_plain_by", .glo "_law_value", .glo "_law_true", .glo "_law_free", .glo "_law_sum_is", .glo "_law_plain_is", .glo "_law_word_of", .glo "_law_big_by", .glo "_law_bound_by", .glo "_law_edge_by", .glo "_law_straight_is", .glo "_law_refused", .glo "law"]
def faL : List He.Fa := fa0 ++ fa1
def tsL : List He.Tab := [(fun K => He.ga K "OTHER", ["and", "or"])]
def exB (K : PySem.W.Frag) : Bool := XH.allB [XH.freeB K XH.blL, XH.freeB K XH.bl2L, XH.allB (XH.errL K), XH.allB (XH.conL K), XH.allB (XH.tfL K), XH.bltB K "gcd" "math.gcd", XH.bltB K "lcm" "math.lcm", (He.Fa.int "MOST_WITHIN" 40).ok K, (He.Fa.int "PIECE" 60).ok K, (He.Fa.int "PIECE_END" (10 ^ 60)).ok K, (He.Fa.int "FEWEST" 4).ok K, (He.Fa.int "FEW" 10).ok K, XH.freeB K ["divmod", "reversed"]]
def xs0 : List Str := ["inverse", "made", "added", "times", "above", "nought", "goes", "simple", "contrary", "about", "sum_of", "turned", "common_share", "_factor", "decides", "joined", "opposite", "changed", "is_plain", "refuse_unless_plain", "parts_within", "slimmed", "some_number", "depth", "shallow", "fitting_depths", "straight", "fitting_taking", "_formed", "_without_nought"]
def xs1 : List Str := ["_law_cell_at", "_law_whole", "_law_names_by", "_law_sum_by", "_law_end_by", "_law_plain_by", "_law_value", "_law_true", "_law_free", "_law_sum_is", "_law_plain_is", "_law_word_of", "_law_big_by", "_law_bound_by", "_law_edge_by", "_law_straight_is", "_law_refused", "law", "SomeError", "NoValue", "NotPlain", "NoNote", "OVER_SUMS", "BINDING", "TRUE", "FALSE", "OTHER"]
def xsL : List Str := xs0 ++ xs1
def lo0 : List Str := ["__name__", "inverse", "meeting", "SomeError", "NoValue", "NotPlain", "NoNote", "made", "added", "times", "share", "without", "TRUE", "FALSE", "above", "nought", "goes", "simple", "contrary", "about", "sum_of", "put_simply", "turned", "common_share", "_factor", "OTHER", "decides", "joined", "opposite", "changed"]
def lo1 : List Str := ["put_within", "stands_in", "parts_of", "parted", "period", "periods", "number_for", "_stretches", "_find_starts", "_rests_at", "_number_between", "_number_at", "Known", "again", "tells", "learn", "news", "_news_of_bounds", "_bounds", "_tells_equal", "_raise_low", "_bar", "_bar_rest", "OVER_SUMS", "BINDING", "is_plain", "unknowns", "refuse_unless_plain", "parts_within", "_find_free"]
def lo2 : List Str := ["MOST_WITHIN", "PIECE", "PIECE_END", "written", "_write", "_write_sum", "_figures", "slimmed", "_slimmed", "_learned", "_each_once", "some_number", "_by_parts", "_with_sums", "_with_rests", "_at", "_point", "_only_point", "_far_below", "_points", "_find_ends", "_numbers", "_around", "_has", "_strictest_goes", "_solved", "_leave_some", "FEWEST", "FEW", "depth"]
def lo3 : List Str := ["shallow", "_fitting", "fitting_depths", "_size", "_groups", "_together", "straight", "fitting_taking", "_formed", "_without_nought", "_law_cell_at", "_law_whole", "_law_names_by", "_law_sum_by", "_law_end_by", "_law_plain_by", "_law_value", "_law_true", "_law_free", "_law_sum_is", "_law_plain_is", "_law_word_of", "_law_big_by", "_law_bound_by", "_law_edge_by", "_law_straight_is", "_law_refused"]
def loL : List Str := lo0 ++ lo1 ++ lo2 ++ lo3
abbrev hk : PySem.W.Hook := XH.hookZ xsL faL fnL tsL exB
def ob (s : PySem.W.SharedT) : XH.AlZ := XH.obsZ xsL faL fnL tsL exB (HandSHeadRun.getT s)
theorem ob_eq (s : PySem.W.SharedT) : ob s = hk.obs s.abs := XH.obsZ_eq (HandSHeadRun.getT_eq s)
def partL (w : World) : Prop := (HandSHeadRun.wholeF (fun p => HandSHeadRun.stepQ (HandSHeadRun.denQ HandSHeadRun.tabQ) p w) HandSHeadRun.fenceQ 6000 Rr.prog).map (fun x => HandSHeadRun.looksF Rr.prog x.1.heap x.2.abs) = some true
def partS (w : World) : Prop := (HandSHeadRun.wholeF (fun p => HandSHeadRun.stepQ (HandSHeadRun.denQ HandSHeadRun.tabQ) p w) HandSHeadRun.fenceQ 6000 Rr.prog).map (fun x => HandSHeadRun.seenQ (PySem.W.view Rr.prog [0, 132]) loL (PySem.importedModules Rr.prog.main.body) (fun s => PySem.W.xlAt (PySem.W.view Rr.prog [0, 132]) [] s && PySem.W.recOk Rr.toRowW.records s) x.2.abs) = some (PySem.W.openGood (PySem.W.view Rr.prog [0, 132]) loL)
def partO (w : World) : Prop := (HandSHeadRun.wholeF (fun p => HandSHeadRun.stepQ (HandSHeadRun.denQ HandSHeadRun.tabQ) p w) HandSHeadRun.fenceQ 6000 Rr.prog).map (fun x => ob x.2) = some (hk.val w)
set_option maxHeartbeats 0
theorem runL0 (w : World) : partL (w.withFollow "special-get-raises" false) := by unfold partL; kernel_rfl
theorem runL1 (w : World) : partL (w.withFollow "special-get-raises" true) := by unfold partL; kernel_rfl
theorem runS0 (w : World) : partS (w.withFollow "special-get-raises" false) := by unfold partS; kernel_rfl
theorem runS1 (w : World) : partS (w.withFollow "special-get-raises" true) := by unfold partS; kernel_rfl
theorem runO0 (w : World) : partO (w.withFollow "special-get-raises" false) := by unfold partO; kernel_rfl
theorem runO1 (w : World) : partO (w.withFollow "special-get-raises" true) := by unfold partO; kernel_rfl
theorem runF (w : World) : HandSHeadRun.RunEqI Rr (PySem.W.view Rr.prog [0, 132]) hk ob 6000 loL w :=
  XH.map3 (PySem.W.byRow2 "special-get-raises" (P := partL) runL0 runL1 w) (PySem.W.byRow2 "special-get-raises" (P := partS) runS0 runS1 w) (PySem.W.byRow2 "special-get-raises" (P := partO) runO0 runO1 w)
set_option maxHeartbeats 4000000

abbrev s_slimmed : Stmt := topS 77
abbrev P_slimmed : List Str := ["statement"]
abbrev s_some_number : Stmt := topS 82
abbrev P_some_number : List Str := ["name", "statement"]
abbrev s_fitting_depths : Stmt := topS 103
abbrev P_fitting_depths : List Str := ["kind", "statement", "most"]

abbrev s__law_cell_at : Stmt := topS 115
abbrev N__law_cell_at : List Str := ["_law_script", "_law_k"]
abbrev P__law_cell_at : List Str := ["_law_script", "_law_k"]
theorem sc__law_cell_at : FnScope N__law_cell_at P__law_cell_at (defScope s__law_cell_at) := ⟨rfl, rfl, rfl, by decide +kernel, rfl, by decide +kernel, by decide +kernel⟩
theorem d__law_cell_at (F : FunAt K mg "_law_cell_at" s__law_cell_at P__law_cell_at) (Z : Bl mg) : DefAt P w K mg base CX0 1 "_law_cell_at" P__law_cell_at (sp_cell_at K) := by
  refine F.ok sc__law_cell_at (fun vs H Q E h => ?_) (fun f cdv A outer s H vs Q E hr h => ?_)
  · obtain ⟨a, ns, k, rfl, _⟩ := h
    rfl
  obtain ⟨a, ns, k, rfl, h0, hS, q⟩ := h
  refine ⟨_, (pss_cons (ps_if (pt_cmpR op_lt (pv 1) (pe_callB (call_lenK K) (by rfl) Z.len PySem.boot_len (pa_cons (pv 0) pa_nil)) (nomark _))
          (pss_one (ps_ret (pe_ix (ix_listK K) (pv 0) (pv 1) (fun _ _ => rfl)))) pss_nil)
        (pss_one (ps_ret pe_int))), ?_⟩
  walk_at "go"
  refine XS.x_lenL hS ?_
  walk_at "go"
  rw [List.length_map]
  refine XS.x_d (fun c => ?_) (fun c => ?_)
  · walk_at "go"
    refine XS.x_ixL hS (XS.atI_map h0 c) ?_
    unfold cell at q
    rw [if_pos c] at q
    exact q
  · walk_at "go"
    unfold cell at q
    rw [if_neg c] at q
    exact q

abbrev s__law_whole : Stmt := topS 116
abbrev N__law_whole : List Str := ["_law_got"]
abbrev P__law_whole : List Str := ["_law_got"]
theorem sc__law_whole : FnScope N__law_whole P__law_whole (defScope s__law_whole) := ⟨rfl, rfl, rfl, by decide +kernel, rfl, by decide +kernel, by decide +kernel⟩
theorem d__law_whole (F : FunAt K mg "_law_whole" s__law_whole P__law_whole) (Z : Bl mg) : DefAt P w K mg base CX0 1 "_law_whole" P__law_whole sp_whole := by
  refine F.ok sc__law_whole (fun vs H Q E h => ?_) (fun f cdv A outer s H vs Q E hr h => ?_)
  · obtain ⟨i, rfl, _⟩ := h
    rfl
  obtain ⟨i, rfl, q⟩ := h
  refine ⟨_, (pss_one (ps_ret (pe_and (pe_callB (call_isiK K) (by rfl) Z.isinstance (by decide +kernel) (pa_cons (pv 0) (pa_cons (pe_bltn (v := .ty "int") rfl Z.int (by decide +kernel) rfl) pa_nil))) (pe_one (pe_not (pe_callB (call_isiK K) (by rfl) Z.isinstance (by decide +kernel) (pa_cons (pv 0) (pa_cons (pe_bltn (v := .ty "bool") rfl Z.bool (by decide +kernel) rfl) pa_nil)))))))), ?_⟩
  walk_at "go"
  refine XS.x_isi (.base (.int i)) XS.k_int_int ?_
  walk_at "go"
  refine XS.x_isi (.base (.int i)) XS.k_int_bool ?_
  walk_at "go"
  exact q

abbrev s__law_names_by : Stmt := topS 117
abbrev N__law_names_by : List Str := ["_law_cell", "_law_letters", "_law_size", "_law_word", "_law_number", "_law_k", "_law_spot", "_law_usual"]
abbrev P__law_names_by : List Str := ["_law_cell"]
theorem sc__law_names_by : FnScope N__law_names_by P__law_names_by (defScope s__law_names_by) := ⟨rfl, rfl, rfl, by decide +kernel, rfl, by decide +kernel, by decide +kernel⟩
theorem d__law_names_by (F : FunAt K mg "_law_names_by" s__law_names_by P__law_names_by) (Z : Bl mg) : DefAt P w K mg base CX0 1 "_law_names_by" P__law_names_by sp_names_by := by
  refine F.ok sc__law_names_by (fun vs H Q E h => ?_) (fun f cdv A outer s H vs Q E hr h => ?_)
  · obtain ⟨_, rfl, _⟩ := h
    rfl
  obtain ⟨c, rfl, q⟩ := h
  have hz := sizeBy_b c
  have hs := spotBy_b c
  have hl := wordBy_len c
  have hw := wordBy_ok c
  have end_ : ∀ (H2 : Hp), Same H H2 → ∀ Dl H' acc, H2 Dl = none → Same H2 H' → H' Dl = some (.lst acc) → DpAll K H' acc (((List.range (4 : Int).toNat).filter (fun _ => true)).map fun k => PyData.str (nameBy c k)) → Q (.ref Dl) H' := fun H2 e2 Dl H' acc h0 e h1 had => by
    have e3 : (((List.range (4 : Int).toNat).filter (fun _ => true)).map fun k => PyData.str (nameBy c k)) = (namesBy c).map PyData.str := rfl
    rw [e3] at had
    rw [had.strs] at h1
    exact q Dl H' (e2.free h0) (e2.trans e) h1
  refine ⟨_, (pss_cons (ps_set (i := 1) sc__law_names_by.nd rfl (Or.inr rfl) pe_str)
        (pss_cons (ps_set (i := 2) sc__law_names_by.nd rfl (Or.inl rfl) (pe_op op_add pe_int (pe_op op_mod (pv 0) pe_int)))
        (pss_cons (ps_set (i := 3) sc__law_names_by.nd rfl (Or.inr rfl) pe_str)
        (pss_cons (ps_set (i := 4) sc__law_names_by.nd rfl (Or.inl rfl) (pv 0))
        (pss_cons (ps_for PassesOwn.never rfl (pi_range1 rfl Z.range (pa_cons (pv 2) pa_nil)) (pg_name (i := 5) sc__law_names_by.nd rfl (Or.inl rfl))
          (pss_cons (ps_set (i := 4) sc__law_names_by.nd rfl (Or.inl rfl) (pe_op op_mod (pe_op op_add (pe_op op_mul (pv 4) pe_int) pe_int) pe_int))
        (pss_one (ps_set (i := 3) sc__law_names_by.nd rfl (Or.inr rfl) (pe_op op_add_str (pv 3) (pe_ix ix_str (pv 1) (pe_op op_mod (pe_op op_fdiv (pv 4) pe_int) pe_int) (fun _ _ => rfl)))))))
        (pss_cons (ps_if (pt_cmpR op_eq (pe_op op_mod (pe_op op_fdiv (pv 0) pe_int) pe_int) pe_int (nomark _))
          (pss_one (ps_ret (pe_lc (own := [("_law_k", 5)]) (by rfl) sc__law_names_by.nd (pi_range1 rfl Z.range (pa_cons pe_int pa_nil)) (blkOk_by (own := [("_law_k", 5)]) (N := N__law_names_by) (sc := defScope s__law_names_by) (by decide +kernel)) (fun _ _ _ _ _ => (pg_name (i := 5) sc__law_names_by.nd rfl (Or.inl rfl))) (fun _ _ _ _ _ => pts_nil) (fun _ _ _ _ _ => (pe_op op_repS (pe_slice sl_str (pv 3) po_none (po_some pe_int)) (pe_op op_add pe_int (pe_op op_mod (pe_op op_add (pv 5) (pe_op op_fdiv (pv 0) pe_int)) pe_int))))))) pss_nil)
        (pss_cons (ps_if (pt_cmpR (op_inK K) (pe_op op_mod (pe_op op_fdiv (pv 0) pe_int) pe_int) (pe_lst (pa_cons pe_int (pa_cons pe_int (pa_cons pe_int pa_nil)))) (by rfl))
          (pss_cons (ps_set (i := 7) sc__law_names_by.nd rfl (Or.inr rfl) (pe_lst (pa_cons pe_str (pa_cons pe_str (pa_cons pe_str (pa_cons pe_str (pa_cons pe_str (pa_cons pe_str (pa_cons pe_str (pa_cons pe_str (pa_cons pe_str (pa_cons pe_str (pa_cons pe_str (pa_cons pe_str (pa_cons pe_str (pa_cons pe_str pa_nil))))))))))))))))
        (pss_cons (ps_set (i := 7) sc__law_names_by.nd rfl (Or.inr rfl) (pe_op op_cat (pv 7) (pe_lst (pa_cons pe_str (pa_cons pe_str (pa_cons pe_str (pa_cons pe_str (pa_cons pe_str (pa_cons pe_str (pa_cons pe_str (pa_cons pe_str (pa_cons pe_str (pa_cons pe_str (pa_cons pe_str pa_nil))))))))))))))
        (pss_one (ps_ret (pe_lc (own := [("_law_k", 5)]) (by rfl) sc__law_names_by.nd (pi_range1 rfl Z.range (pa_cons pe_int pa_nil)) (blkOk_by (own := [("_law_k", 5)]) (N := N__law_names_by) (sc := defScope s__law_names_by) (by decide +kernel)) (fun _ _ _ _ _ => (pg_name (i := 5) sc__law_names_by.nd rfl (Or.inl rfl))) (fun _ _ _ _ _ => pts_nil) (fun _ _ _ _ _ => (pe_ix (ix_listK K) (pv 7) (pe_op op_mod (pe_op op_add (pe_op op_fdiv (pv 0) pe_int) (pe_ix (ix_listK K) (pe_lst (pa_cons pe_int (pa_cons pe_int (pa_cons pe_int (pa_cons pe_int pa_nil))))) (pv 5) (fun _ _ => rfl))) pe_int) (fun _ _ => rfl)))))))) pss_nil)
        (pss_cons (ps_set (i := 6) sc__law_names_by.nd rfl (Or.inr rfl) (pe_op op_modN (pe_op op_fdiv (pv 0) pe_int) (pv 2)))
        (pss_one (ps_ret (pe_lc (own := [("_law_k", 5)]) (by rfl) sc__law_names_by.nd (pi_range1 rfl Z.range (pa_cons pe_int pa_nil)) (blkOk_by (own := [("_law_k", 5)]) (N := N__law_names_by) (sc := defScope s__law_names_by) (by decide +kernel)) (fun _ _ _ _ _ => (pg_name (i := 5) sc__law_names_by.nd rfl (Or.inl rfl))) (fun _ _ _ _ _ => pts_nil) (fun _ _ _ _ _ => (pe_op op_add_str (pe_op op_add_str (pe_slice sl_str (pv 3) po_none (po_some (pv 6))) (pe_ix ix_str (pv 1) (pe_op op_mod (pe_op op_add (pe_op op_fdiv (pv 0) pe_int) (pe_op op_mul pe_int (pv 5))) pe_int) (fun _ _ => rfl))) (pe_slice sl_str (pv 3) (po_some (pe_op op_add (pv 6) pe_int)) po_none)))))))))))))), ?_⟩
  walk_at "go"
  refine XS.x_forR1 (by omega) (fun i σ H' => ∃ y5 : Option V, σ = [some (.int c), some (.str abc), some (.int (1 + c % 8)), some (.str (XS.tx (wordRun c i).1)), some (.int (wordRun c i).2), y5, none, none] ∧ H' = H) ⟨none, rfl, rfl⟩ ?_ ?_
  · rintro i σ H' hi ⟨y5, rfl, rfl⟩
    walk_at "go"
    refine XS.x_ixS (by rw [abc_len]; exact XS.sz (by decide)) (abc_at _) ?_
    walk_at "go"
    refine ⟨_, _, rfl, rfl, ?_, ?_⟩
    · show (XS.tx _).length + 1 ≤ sizeLine
      rw [tx_len, wordRun_len]
      exact XS.sz (by omega)
    · walk_at "go"
      refine ⟨some (.int i), ?_, rfl⟩
      show [_, _, _, some (V.str (XS.tx (wordRun c i).1 ++ tx [lc (mixN (wordRun c i).2 / 7)])), _, _, _, _] = _
      rw [tx_app]
      rfl
  · rintro σ H' ⟨y5, rfl, rfl⟩
    have e0 : (wordRun c (1 + c % 8).toNat).1 = wordBy c := rfl
    rw [e0]
    have hsz : (XS.tx (wordBy c)).length ≤ sizeLine := by rw [tx_len]; exact XS.sz (by omega)
    walk_at "go"
    refine XS.x_d (fun h1 => ?_) (fun h1 => ?_)
    · walk_at "go"
      refine XS.x_lcR1 (fun _ => true) (fun k => PyData.str (nameBy c k)) ⟨by decide, by decide⟩ (fun _ => .str _) (fun z hz H' Yes No e yes no => ?_) (end_ _ (Same.refl _))
      walk_at "go"
      refine ⟨rfl, ?_⟩
      walk_at "go"
      refine ⟨_, rfl, hsz, ?_⟩
      walk_at "go"
      have h2 : 0 ≤ (z + c / 24) % 8 := Int.emod_nonneg _ (by decide)
      have h3 : (z + c / 24) % 8 < 8 := Int.emod_lt_of_pos _ (by decide)
      refine ⟨_, _, rfl, rfl, by omega, by omega, Nat.le_trans (cutS_length _ _ _) (by rw [tx_len]; omega), ?_⟩
      have e1 : repS (cutS (XS.tx (wordBy c)) none (some 1)) (1 + (z + c / 24) % 8).toNat = nameBy c z := by
        unfold nameBy
        rw [if_pos h1]
        have := tx_cut0 (wordBy c) 1
        rw [show ((1 : Nat) : Int) = 1 from rfl] at this
        rw [this, tx_rep]
      refine yes _ _ (Same.refl _) rfl ?_
      rw [e1]
      exact .str _
    · walk_at "go"
      refine ⟨XS.sz (by simp), fun p1 hp1 => ?_⟩
      obtain ⟨e1, h3⟩ := XS.newly (o := HO.lst _) hp1
      generalize hH1 : upd _ p1 _ = H1 at e1 h3 ⊢
      walk_at "go"
      refine ⟨p1, _, rfl, .inl (SqL.of h3), rfl, rfl, ?_⟩
      walk_at "go"
      have hin : (if false = true then !inV (V.int (c / 8 % 9)) [V.int 1, V.int 4, V.int 7] else inV (V.int (c / 8 % 9)) [V.int 1, V.int 4, V.int 7]) = decide (c / 8 % 9 = 1 ∨ c / 8 % 9 = 4 ∨ c / 8 % 9 = 7) := by
        rw [if_neg Bool.false_ne_true, Bool.eq_iff_iff]
        simp [inV, eqV]
        omega
      rw [hin]
      refine XS.x_d (fun h2 => ?_) (fun h2 => ?_)
      · walk_at "go"
        refine ⟨XS.sz (by simp), fun p2 hp2 => ?_⟩
        obtain ⟨e2, h4⟩ := XS.newly (o := HO.lst _) hp2
        generalize hH2 : upd _ p2 _ = H2 at e2 h4 ⊢
        walk_at "go"
        refine ⟨XS.sz (by simp), fun p3 hp3 => ?_⟩
        obtain ⟨e3, h5⟩ := XS.newly (o := HO.lst _) hp3
        generalize hH3 : upd _ p3 _ = H3 at e3 h5 ⊢
        walk_at "go"
        refine ⟨p2, p3, _, _, rfl, rfl, e3 _ _ h4, h5, XS.sz (by show 14 + 11 ≤ 100000; decide), fun p4 hp4 => ?_⟩
        have e4 := XS.same_upd (o := .lst (usual.map V.str)) hp4
        walk_at "go"
        refine XS.x_lcR1 (fun _ => true) (fun k => PyData.str (nameBy c k)) ⟨by decide, by decide⟩ (fun _ => .str _) (fun z hz H' Yes No e yes no => ?_) (end_ _ (((e1.trans e2).trans e3).trans e4))
        walk_at "go"
        refine ⟨rfl, ?_⟩
        walk_at "go"
        refine ⟨XS.sz (by simp), fun p5 hp5 => ?_⟩
        obtain ⟨e5, h7⟩ := XS.newly (o := HO.lst _) hp5
        generalize hH5 : upd _ p5 _ = H5 at e5 h7 ⊢
        walk_at "go"
        have hoff : atI [V.int 0, V.int 7, V.int 12, V.int 18] (z : Int) = some (.int (offs z)) := by
          have hz' : z = 0 ∨ z = 1 ∨ z = 2 ∨ z = 3 := by omega
          rcases hz' with rfl | rfl | rfl | rfl <;> exact atI_nat rfl
        refine XS.x_ixL (SqL.of h7) hoff ?_
        walk_at "go"
        have hu := usualAt c z
        have h8 : 0 ≤ (c / 72 + offs z) % 25 := Int.emod_nonneg _ (by decide)
        obtain ⟨j, hj⟩ := Int.eq_ofNat_of_zero_le h8
        have hus : atI (usual.map V.str) ((c / 72 + offs z) % 25) = some (.str (nameBy c z)) := by
          unfold nameBy
          rw [if_neg h1, if_pos h2, hj]
          rw [hj] at hu
          refine atI_nat ?_
          have hu' : j < usual.length := hu
          rw [List.getElem?_map, List.getD_eq_getElem?_getD]
          show (usual[j]?).map V.str = some (.str ((usual[j]?).getD ""))
          rw [List.getElem?_eq_getElem hu']
          rfl
        refine XS.x_ixL (SqL.of (e5 _ _ (e _ _ upd_same))) hus ?_
        exact yes _ _ e5 rfl (.str _)
      · walk_at "go"
        have hmod : (c / 24).fmod (1 + c % 8) = spotBy c := by rw [Int.fmod_eq_emod_of_nonneg _ (by omega)]; exact hs.2.symm
        refine XS.x_I (by omega) ?_
        rw [hmod]
        walk_at "go"
        refine XS.x_lcR1 (fun _ => true) (fun k => PyData.str (nameBy c k)) ⟨by decide, by decide⟩ (fun _ => .str _) (fun z hz H' Yes No e yes no => ?_) (end_ _ e1)
        walk_at "go"
        refine ⟨rfl, ?_⟩
        walk_at "go"
        refine ⟨_, rfl, hsz, ?_⟩
        rw [tx_cut0]
        walk_at "go"
        refine XS.x_ixS (by rw [abc_len]; exact XS.sz (by decide)) (abc_at _) ?_
        walk_at "go"
        have hcut : ((wordBy c).take (spotBy c)).length ≤ 8 := by rw [List.length_take]; omega
        refine ⟨_, _, rfl, rfl, ?_, ?_⟩
        · show (XS.tx _).length + 1 ≤ sizeLine
          rw [tx_len]
          exact XS.sz (by omega)
        walk_at "go"
        refine ⟨_, rfl, hsz, ?_⟩
        have e7 : (spotBy c : Int) + 1 = ((spotBy c + 1 : Nat) : Int) := rfl
        rw [e7, tx_cut1]
        walk_at "go"
        have e9 : XS.tx ((wordBy c).take (spotBy c)) ++ (⟨#[lc (c / 192 + 7 * z)]⟩ : Str) = XS.tx ((wordBy c).take (spotBy c) ++ [lc (c / 192 + 7 * z)]) := tx_app _ [_]
        rw [e9]
        refine ⟨_, _, rfl, rfl, ?_, ?_⟩
        · rw [tx_len, tx_len, List.length_append, List.length_drop]
          exact XS.sz (by simp; omega)
        rw [tx_app]
        refine yes _ _ (Same.refl _) rfl ?_
        have e10 : nameBy c z = XS.tx ((wordBy c).take (spotBy c) ++ [lc (c / 192 + 7 * z)] ++ (wordBy c).drop (spotBy c + 1)) := by
          unfold nameBy
          rw [if_neg h1, if_neg h2]
        rw [e10]
        exact .str _

abbrev s_made : Stmt := topS 10
abbrev N_made : List Str := ["number", "pairs", "shares", "name", "many", "parts"]
abbrev P_made : List Str := ["number", "pairs"]
theorem sc_made : FnScope N_made P_made (defScope s_made) := ⟨rfl, rfl, rfl, by decide +kernel, rfl, by decide +kernel, by decide +kernel⟩
theorem d_made (F : FunAt K mg "made" s_made P_made) (Z : Bl mg) : DefAt P w K mg base CX0 1 "made" P_made (sp_made K) := by
  refine F.ok sc_made (fun vs H Q E h => ?_) (fun f cdv A outer s H vs Q E hr h => ?_)
  · obtain ⟨_, _, _, rfl, _⟩ := h
    rfl
  obtain ⟨n, v, ps, rfl, hd, h64, q⟩ := h
  have hu := hu_of hr
  cases hd with
  | lst hs ha =>
  rename_i a us
  have hl := ha.len
  rw [List.length_map] at hl
  refine ⟨_, (pss_cons (ps_set (i := 2) sc_made.nd rfl (Or.inr rfl) pe_dnewK)
        (pss_cons (ps_for PassesOwn.never rfl (pi_listK K (pv 1)) (pg_tupK (n := 2) K rfl (pgs_cons (pg_name (i := 3) sc_made.nd rfl (Or.inl rfl)) (pgs_cons (pg_name (i := 4) sc_made.nd rfl (Or.inl rfl)) pgs_nil)))
          (pss_one (ps_dput hu (pv 2) (pv 3) (pe_op op_add (pe_dget2 hu (pv 2) (pv 3) pe_int ⟨by rfl, by rfl, by rfl, by rfl⟩) (pv 4)) rfl)))
        (pss_cons (ps_setLc (i := 5) (own := [("name", 3)]) (by rfl) sc_made.nd rfl rfl (sw_true rfl rfl rfl (by decide +kernel)) (pi_listK K (pe_callB (call_sortedD rfl) (by rfl) Z.sorted (by decide +kernel) (pa_cons (pv 2) pa_nil))) (blkOk_by (own := [("name", 3)]) (N := N_made) (sc := defScope s_made) (by decide +kernel)) (fun _ _ _ _ _ => (pg_name (i := 3) sc_made.nd rfl (Or.inl rfl))) (fun _ _ _ _ _ => (pts_one (pt_cmpR op_ne (pe_dget hu (pv 2) (pv 3) (fun _ _ => rfl)) pe_int (nomark _)))) (fun _ _ _ _ _ => (pe_tup (pa_cons (pv 3) (pa_cons (pe_dget hu (pv 2) (pv 3) (fun _ _ => rfl)) pa_nil)))))
        (pss_one (ps_ret (pe_tup (pa_cons (pv 0) (pa_cons (pe_callTy (call_tupK K) (by rfl) Z.tuple (by decide +kernel) (pa_cons (pv 5) pa_nil)) pa_nil)))))))), ?_⟩
  walk_at "go"
  intro d hd0
  have e0 : Same H (upd H d (.dK [])) := XS.same_upd hd0
  walk_at "go"
  refine XS.x_forL (e0.seq hs) (fun i σ H' => ∃ (y3 y4 : Option V) (m : List Pr), σ = [some (.int n), some (.ref a), some (.ref d), y3, y4, none] ∧ Same H H' ∧ H' d = some (.dK (dOf m)) ∧ Shares (ps.take i) m) ⟨none, none, [], rfl, e0, upd_same, Shares.nil⟩ (fun i σ H' _ ⟨_, _, _, _, e, _⟩ => e.seq hs) ?_ ?_
  · rintro i u σ H' hi ⟨y3, y4, m, rfl, e1, hd1, S⟩
    obtain ⟨dp, hd2, hd3⟩ := ha.getV hi
    obtain ⟨p, hp, rfl⟩ := XS.map_at hd2
    obtain ⟨c, rfl, hc⟩ := hd3.pair
    refine XS.x_gtup (e1.seqT hc) rfl ?_
    walk_at "go"
    have hm : m.length < 64 := by
      have h1 := S.len
      rw [List.length_take] at h1
      omega
    have hval : ((getP m p.1).map V.int).getD (.int 0) = .int ((getP m p.1).getD 0) := by
      cases getP m p.1 <;> rfl
    refine ⟨d, rfl, .inl ⟨_, .inl hd1⟩, ?_⟩
    walk_at "go"
    refine ⟨_, DGet.k (k := Sum.inr p.1) hd1, ?_⟩
    rw [dOf_val, hval]
    walk_at "go"
    refine ⟨d, _, rfl, DPut.k (k := Sum.inr p.1) hd1 (szl (by rw [dOf_len]; omega)), ?_⟩
    rw [dOf_put]
    refine ⟨_, _, _, rfl, XS.same_mut e1 hd0, upd_same, ?_⟩
    rw [XS.take_more hp]
    exact S.more
  · rintro σ H' ⟨y3, y4, m, rfl, e1, hd1, S⟩
    rw [hl, List.take_length] at S
    walk_at "go"
    refine ⟨d, dOf m, m.map (·.1), rfl, .inl hd1, dOf_keys m, by rw [List.length_map]; have := S.len; omega, fun ys l hp hsort hl0 => ?_⟩
    have e2 : Same H' (upd H' l (.lst (ys.map V.str))) := XS.same_upd hl0
    have hys : ys.length = m.length := by rw [hp.length_eq, List.length_map]
    have hml := S.len
    refine XS.x_lcL ys V.str (fun x => decide (shr ps x ≠ 0)) (fun x => prT (x, shr ps x)) (SqL.of upd_same) (by omega) (fun _ => im_pair _) (fun z hz H2 Yes No e3 yes no => ?_) (fun Dl H2 acc hDl e3 hacc had => ?_)
    · have hd2 : H2 d = some (.dK (dOf m)) := e3 _ _ (e2 _ _ hd1)
      have hmem : z ∈ m.map (·.1) := hp.mem_iff.mp hz
      have hval : getP m z = some (shr ps z) := by
        have h1 := S.val z
        have h2 := getP_some (m := m) (x := z)
        rw [decide_eq_true hmem] at h2
        cases q1 : getP m z with
        | none => rw [q1] at h2; cases h2
        | some k => rw [q1] at h1; rw [← h1]; rfl
      have hget : DGet H2 d (kV (Sum.inr z)) (some (.int (shr ps z))) := by
        have := DGet.k (k := Sum.inr z) hd2
        rw [dOf_val, hval] at this
        exact this
      walk_at "go"
      refine ⟨rfl, ?_⟩
      walk_at "go"
      refine ⟨d, _, rfl, hget, ?_⟩
      walk_at "go"
      refine XS.x_dn (fun c => ?_) (fun c => ?_)
      · walk_at "go"
        refine ⟨d, _, rfl, hget, ?_⟩
        walk_at "go"
        refine XS.x_newT (XS.sz (by simp)) fun t H3 ht e4 h3 => ?_
        exact yes _ _ e4 (by simpa using c) (Dp.mkPair (p := (z, shr ps z)) (SqT.of h3))
      · walk_at "go"
        exact no _ (Same.refl _) (by simpa using c)
    · walk_at "go"
      refine XS.x_tupL (SqL.of hacc) fun t H3 ht e4 h3 => ?_
      walk_at "go"
      refine XS.x_newT (XS.sz (by simp)) fun t2 H4 ht2 e5 h4 => ?_
      walk_at "go"
      obtain ⟨k1, k2, k3⟩ := S.keptOf hp hsort
      have e6 := (((e1.trans e2).trans e3).trans e4).trans e5
      have had' : DpAll K H2 acc ((kept ys (shr ps)).map prT) := by
        unfold kept
        rw [List.map_map]
        exact had
      exact q t2 H4 (kept ys (shr ps)) e6 k1 k2 k3 (Dp.mkSum (s := (n, kept ys (shr ps))) (SqT.of h4) (SqT.of (e5 _ _ h3)) (DpAll.same (e4.trans e5) _ _ had'))

abbrev s_added : Stmt := topS 11
abbrev N_added : List Str := ["one", "other"]
abbrev P_added : List Str := ["one", "other"]
theorem sc_added : FnScope N_added P_added (defScope s_added) := ⟨rfl, rfl, rfl, by decide +kernel, rfl, by decide +kernel, by decide +kernel⟩
theorem d_added (F : FunAt K mg "added" s_added P_added) (Z : Bl mg) (D_made : DefAt P w K mg base CX0 1 "made" P_made (sp_mk K)) : DefAt P w K mg base CX0 2 "added" P_added (sp_added K) := by
  refine F.ok sc_added (fun vs H Q E h => ?_) (fun f cdv A outer s H vs Q E hr h => ?_)
  · obtain ⟨_, _, _, _, rfl, _⟩ := h
    rfl
  obtain ⟨v, u, s1, s2, rfl, h1, h2, hl, q⟩ := h
  obtain ⟨a, b, us, rfl, a1, a2, a3⟩ := h1.sum
  obtain ⟨c, d, ws, rfl, c1, c2, c3⟩ := h2.sum
  have l1 := a3.len
  have l2 := c3.len
  rw [List.length_map] at l1 l2
  refine ⟨_, (pss_one (ps_ret (pe_callD D_made (hr.mono (by first | exact Nat.le_refl _ | omega | decide)) rfl pass0 (pa_cons (pe_op op_add (pe_ix (ix_tupK K) (pv 0) pe_int (fun _ _ => rfl)) (pe_ix (ix_tupK K) (pv 1) pe_int (fun _ _ => rfl))) (pa_cons (pe_lst (pa_starK K (pe_ix (ix_tupK K) (pv 0) pe_int (fun _ _ => rfl)) (pa_starK K (pe_ix (ix_tupK K) (pv 1) pe_int (fun _ _ => rfl)) pa_nil))) pa_nil))))), ?_⟩
  walk_at "go"
  refine XS.x_ixT a1 (XS.atI_get (i := 0) rfl) ?_
  walk_at "go"
  refine XS.x_ixT c1 (XS.atI_get (i := 0) rfl) ?_
  walk_at "go"
  refine XS.x_ixT a1 (XS.atI_get (i := 1) rfl) ?_
  refine ⟨_, _, rfl, .inl a2, ?_⟩
  walk_at "go"
  refine XS.x_ixT c1 (XS.atI_get (i := 1) rfl) ?_
  refine ⟨_, _, rfl, .inl c2, ?_⟩
  walk_at "go"
  refine ⟨XS.sz (by simp; omega), fun t ht => ?_⟩
  obtain ⟨e1, h5⟩ := XS.newly (o := HO.lst _) ht
  generalize hH1 : upd _ t _ = H1 at e1 h5 ⊢
  walk_at "go"
  refine ⟨_, _, s1.2 ++ s2.2, rfl, .lst (SqL.of h5) ?_, by rw [List.length_append]; exact hl, fun t H' e d => ?_⟩
  · rw [List.map_append, List.append_nil]
    exact (DpAll.same e1 _ _ a3).app (DpAll.same e1 _ _ c3)
  · exact q t H' (e1.trans e) d
abbrev s_times : Stmt := topS 12
abbrev N_times : List Str := ["number", "one", "name", "many"]
abbrev P_times : List Str := ["number", "one"]
theorem sc_times : FnScope N_times P_times (defScope s_times) := ⟨rfl, rfl, rfl, by decide +kernel, rfl, by decide +kernel, by decide +kernel⟩
theorem d_times (F : FunAt K mg "times" s_times P_times) (Z : Bl mg) (D_made : DefAt P w K mg base CX0 1 "made" P_made (sp_mk K)) : DefAt P w K mg base CX0 2 "times" P_times (sp_times K) := by
  refine F.ok sc_times (fun vs H Q E h => ?_) (fun f cdv A outer s H vs Q E hr h => ?_)
  · obtain ⟨_, _, _, rfl, _⟩ := h
    rfl
  obtain ⟨c, v, s1, rfl, h1, hl, sc, ss, q⟩ := h
  obtain ⟨a, b, us, rfl, a1, a2, a3⟩ := h1.sum
  have l1 := a3.len
  rw [List.length_map] at l1
  refine ⟨_, (pss_one (ps_ret (pe_callD D_made (hr.mono (by first | exact Nat.le_refl _ | omega | decide)) rfl pass0 (pa_cons (pe_op op_mulW (pv 0) (pe_ix (ix_tupK K) (pv 1) pe_int (fun _ _ => rfl))) (pa_cons (pe_lc (own := [("name", 2), ("many", 3)]) (by rfl) sc_times.nd (pi_tupK K (pe_ix (ix_tupK K) (pv 1) pe_int (fun _ _ => rfl))) (blkOk_by (own := [("name", 2), ("many", 3)]) (N := N_times) (sc := defScope s_times) (by decide +kernel)) (fun _ _ _ _ _ => (pg_tupK (n := 2) K rfl (pgs_cons (pg_name (i := 2) sc_times.nd rfl (Or.inl rfl)) (pgs_cons (pg_name (i := 3) sc_times.nd rfl (Or.inl rfl)) pgs_nil)))) (fun _ _ _ _ _ => pts_nil) (fun _ _ _ _ _ => (pe_tup (pa_cons (pv 2) (pa_cons (pe_op op_mulW (pv 0) (pv 3)) pa_nil))))) pa_nil))))), ?_⟩
  walk_at "go"
  refine XS.x_ixT a1 (XS.atI_get (i := 0) rfl) ?_
  walk_at "go"
  refine XS.x_I (XS.mul_ok sc ss.1) ?_
  walk_at "go"
  refine XS.x_ixT a1 (XS.atI_get (i := 1) rfl) ?_
  refine XS.x_lcT s1.2 us (fun _ => true) (fun p => prT (p.1, c * p.2)) a2 l1 (by omega) (fun _ => im_pair _) (fun i p u hi hu H1 Yes No e yes no => ?_) (fun l H1 acc hl0 e1 hacc had => ?_)
  · obtain ⟨x, rfl, hx⟩ := (pair_at a3 hi hu).pair
    refine XS.x_gtup (e.seqT hx) rfl ?_
    walk_at "go"
    refine ⟨rfl, ?_⟩
    walk_at "go"
    refine XS.x_I (XS.mul_ok sc (ss.2 p (List.mem_of_getElem? hi))) ?_
    walk_at "go"
    refine ⟨XS.sz (by simp), fun t ht => ?_⟩
    obtain ⟨e1, h5⟩ := XS.newly (o := HO.tup _) ht
    generalize hH1 : upd _ t _ = H2 at e1 h5 ⊢
    exact yes _ _ e1 rfl (Dp.mkPair (p := (p.1, c * p.2)) (SqT.of h5))
  · walk_at "go"
    have e3 : (s1.2.filter fun _ => true).map (fun p => prT (p.1, c * p.2)) = (s1.2.map fun p => (p.1, c * p.2)).map prT := by
      rw [List.map_map, List.filter_eq_self.mpr (fun _ _ => rfl)]
      rfl
    rw [e3] at had
    refine ⟨_, _, s1.2.map fun p => (p.1, c * p.2), rfl, .lst (SqL.of hacc) had, by rw [List.length_map]; exact hl, fun t H' e d => ?_⟩
    exact q t H' (e1.trans e) d

abbrev s__law_word_of : Stmt := topS 126
abbrev N__law_word_of : List Str := ["_law_e", "_law_words"]
abbrev P__law_word_of : List Str := ["_law_e"]
theorem sc__law_word_of : FnScope N__law_word_of P__law_word_of (defScope s__law_word_of) := ⟨rfl, rfl, rfl, by decide +kernel, rfl, by decide +kernel, by decide +kernel⟩
theorem d__law_word_of {eS eV eP eN : Addr} (Y : Er K mg eS eV eP eN) (F : FunAt K mg "_law_word_of" s__law_word_of P__law_word_of) (Z : Bl mg) : DefP P w K mg base 1 "_law_word_of" P__law_word_of (sp_word_of eV eP eN) := by
  refine F.okP sc__law_word_of (fun a D vs H Q E h => ?_) (fun f cdv A outer s H vs Q p D hz hf hr h => ?_)
  · obtain ⟨rfl, _⟩ := h
    rfl
  obtain ⟨rfl, ek, rfl, q⟩ := h
  have C : ExcC K (ek.at eV eP eN) := by
    cases ek
    · exact Y.c_NoValue
    · exact Y.c_NotPlain
    · exact Y.c_NoNote
  refine ⟨_, (pss_cons (ps_set (i := 1) sc__law_word_of.nd rfl (Or.inl rfl) (pe_lst pa_nil))
        (pss_cons (ps_if (pt_val (pe_callB (call_isP (oe := p.2) List.mem_cons_self C hz hf) (by rfl) Z.isinstance (by decide +kernel) (pa_cons (pv 0) (pa_cons (pe_glob (v := .ref _) rfl Y.g_NoValue rfl) pa_nil))))
          (pss_one (ps_expr (pe_bm PySem.F.plainAttrs_list PySem.F.slot_list_append PySem.F.type_list_append mt_append (pv 1) (pa_cons pe_str pa_nil)))) pss_nil)
        (pss_cons (ps_if (pt_val (pe_callB (call_isP (oe := p.2) List.mem_cons_self C hz hf) (by rfl) Z.isinstance (by decide +kernel) (pa_cons (pv 0) (pa_cons (pe_glob (v := .ref _) rfl Y.g_NotPlain rfl) pa_nil))))
          (pss_one (ps_expr (pe_bm PySem.F.plainAttrs_list PySem.F.slot_list_append PySem.F.type_list_append mt_append (pv 1) (pa_cons pe_str pa_nil)))) pss_nil)
        (pss_cons (ps_if (pt_val (pe_callB (call_isP (oe := p.2) List.mem_cons_self C hz hf) (by rfl) Z.isinstance (by decide +kernel) (pa_cons (pv 0) (pa_cons (pe_glob (v := .ref _) rfl Y.g_NoNote rfl) pa_nil))))
          (pss_one (ps_expr (pe_bm PySem.F.plainAttrs_list PySem.F.slot_list_append PySem.F.type_list_append mt_append (pv 1) (pa_cons pe_str pa_nil)))) pss_nil)
        (pss_cons (ps_if (pt_not (pt_val (pe_callB (call_isP (oe := p.2) List.mem_cons_self C hz hf) (by rfl) Z.isinstance (by decide +kernel) (pa_cons (pv 0) (pa_cons (pe_bltn (v := .ty "ValueError") rfl Z.ValueError (by decide +kernel) rfl) pa_nil)))))
          (pss_one (ps_expr (pe_bm PySem.F.plainAttrs_list PySem.F.slot_list_append PySem.F.type_list_append mt_append (pv 1) (pa_cons pe_str pa_nil)))) pss_nil)
        (pss_one (ps_ret (pe_joinK K pe_str (pv 1))))))))), ?_⟩
  walk_at "go"
  refine ⟨XS.sz (by simp), fun l hl => ?_⟩
  obtain ⟨e1, h1⟩ := XS.newly (o := HO.lst _) hl
  generalize hH1 : upd _ l _ = H1 at e1 h1 ⊢
  walk_at "go"
  cases ek
  · refine XS.x_isE Y.i_VV ?_
    walk_at "go"
    refine XS.x_tyL' (XS.x_tyL h1) ?_
    walk_at "go"
    refine XS.x_app h1 (szl (by simp)) ?_
    walk_at "go"
    refine XS.x_isE Y.i_VP ?_
    walk_at "go"
    refine XS.x_isE Y.i_VN ?_
    walk_at "go"
    refine XS.x_isET Y.i_V ?_
    walk_at "go"
    refine ⟨⟨_, rfl⟩, ?_⟩
    walk_at "go"
    refine ⟨_, l, ["no value"], rfl, rfl, .inl (SqL.of upd_same), by decide +kernel, ?_⟩
    rw [show Txt.join ("" : Str) ["no value"] = "no value" by decide +kernel]
    exact q _ (XS.same_mut e1 hl)
  · refine XS.x_isE Y.i_PV ?_
    walk_at "go"
    refine XS.x_isE Y.i_PP ?_
    walk_at "go"
    refine XS.x_tyL' (XS.x_tyL h1) ?_
    walk_at "go"
    refine XS.x_app h1 (szl (by simp)) ?_
    walk_at "go"
    refine XS.x_isE Y.i_PN ?_
    walk_at "go"
    refine XS.x_isET Y.i_P ?_
    walk_at "go"
    refine ⟨⟨_, rfl⟩, ?_⟩
    walk_at "go"
    refine ⟨_, l, ["not plain"], rfl, rfl, .inl (SqL.of upd_same), by decide +kernel, ?_⟩
    rw [show Txt.join ("" : Str) ["not plain"] = "not plain" by decide +kernel]
    exact q _ (XS.same_mut e1 hl)
  · refine XS.x_isE Y.i_NV ?_
    walk_at "go"
    refine XS.x_isE Y.i_NP ?_
    walk_at "go"
    refine XS.x_isE Y.i_NN ?_
    walk_at "go"
    refine XS.x_tyL' (XS.x_tyL h1) ?_
    walk_at "go"
    refine XS.x_app h1 (szl (by simp)) ?_
    walk_at "go"
    refine XS.x_isET Y.i_N ?_
    walk_at "go"
    refine ⟨⟨_, rfl⟩, ?_⟩
    walk_at "go"
    refine ⟨_, l, ["no note"], rfl, rfl, .inl (SqL.of upd_same), by decide +kernel, ?_⟩
    rw [show Txt.join ("" : Str) ["no note"] = "no note" by decide +kernel]
    exact q _ (XS.same_mut e1 hl)

abbrev s__law_big_by : Stmt := topS 127
abbrev N__law_big_by : List Str := ["_law_cell", "_law_number", "_law_mixed", "_law_k"]
abbrev P__law_big_by : List Str := ["_law_cell"]
theorem sc__law_big_by : FnScope N__law_big_by P__law_big_by (defScope s__law_big_by) := ⟨rfl, rfl, rfl, by decide +kernel, rfl, by decide +kernel, by decide +kernel⟩
theorem d__law_big_by (F : FunAt K mg "_law_big_by" s__law_big_by P__law_big_by) (Z : Bl mg) : DefAt P w K mg base CX0 1 "_law_big_by" P__law_big_by sp_big_by := by
  refine F.ok sc__law_big_by (fun vs H Q E h => ?_) (fun f cdv A outer s H vs Q E hr h => ?_)
  · obtain ⟨i, rfl, _⟩ := h
    rfl
  obtain ⟨c, rfl, q⟩ := h
  refine ⟨_, (pss_cons (ps_if (pt_cmpR op_gt (pe_op op_mod (pv 0) pe_int) pe_int (nomark _))
          (pss_one (ps_ret (pe_op op_sub (pe_op op_mod (pe_op op_fdiv (pv 0) pe_int) pe_int) pe_int))) pss_nil)
        (pss_cons (ps_set (i := 1) sc__law_big_by.nd rfl (Or.inl rfl) pe_int)
        (pss_cons (ps_set (i := 2) sc__law_big_by.nd rfl (Or.inl rfl) (pv 0))
        (pss_cons (ps_for PassesOwn.never rfl (pi_range1 rfl Z.range (pa_cons (pe_op op_add pe_int (pe_op op_mod (pe_op op_fdiv (pv 0) pe_int) pe_int)) pa_nil)) (pg_name (i := 3) sc__law_big_by.nd rfl (Or.inl rfl))
          (pss_cons (ps_set (i := 2) sc__law_big_by.nd rfl (Or.inl rfl) (pe_op op_mod (pe_op op_add (pe_op op_mul (pv 2) pe_int) pe_int) pe_int))
        (pss_one (ps_set (i := 1) sc__law_big_by.nd rfl (Or.inl rfl) (pe_op op_add (pe_op op_mul (pv 1) pe_int) (pe_op op_mod (pe_op op_fdiv (pv 2) pe_int) pe_int))))))
        (pss_one (ps_ret (pe_op op_mul (pe_ix (ix_listK K) (pe_lst (pa_cons pe_int (pa_cons (pe_un un_neg pe_int) pa_nil))) (pe_op op_mod (pe_op op_fdiv (pv 0) pe_int) pe_int) (fun _ _ => rfl)) (pv 1)))))))), ?_⟩
  walk_at "go"
  unfold bigBy at q
  refine XS.x_d (fun e => ?_) (fun e => ?_)
  · rw [if_pos e] at q
    walk_at "go"
    exact q _ (Same.refl _)
  · rw [if_neg e] at q
    walk_at "go"
    have h3 : 0 ≤ c / 8 % 60 := Int.emod_nonneg _ (by decide)
    have h4 : c / 8 % 60 < 60 := Int.emod_lt_of_pos _ (by decide)
    refine XS.x_forR1 (by omega) (fun i σ H' => ∃ y : Option V, σ = [some (.int c), some (.int (bigRun i (0, c)).1), some (.int (bigRun i (0, c)).2), y] ∧ H' = H) ⟨none, rfl, rfl⟩ ?_ ?_
    · rintro i σ H' hi ⟨y, rfl, rfl⟩
      walk_at "go"
      exact ⟨_, rfl, rfl⟩
    · rintro σ H' ⟨y, rfl, rfl⟩
      walk_at "go"
      refine ⟨(by show 2 ≤ sizeLine; decide), fun l hl => ?_⟩
      have e2 := XS.same_upd (o := .lst [.int 1, .int (-1)]) hl
      walk_at "go"
      have h5 : 0 ≤ c / 4 % 2 := Int.emod_nonneg _ (by decide)
      have h6 : c / 4 % 2 < 2 := Int.emod_lt_of_pos _ (by decide)
      by_cases z : c / 4 % 2 = 0
      · rw [if_pos z] at q
        rw [z]
        refine XS.x_ixL (SqL.of upd_same) (atI_get (i := 0) rfl) ?_
        walk_at "go"
        exact q _ e2
      · rw [if_neg z] at q
        rw [show c / 4 % 2 = 1 by omega]
        refine XS.x_ixL (SqL.of upd_same) (atI_get (i := 1) rfl) ?_
        walk_at "go"
        exact q _ e2

abbrev s__law_value : Stmt := topS 121
abbrev N__law_value : List Str := ["_law_one", "_law_values", "_law_total", "_law_pair"]
abbrev P__law_value : List Str := ["_law_one", "_law_values"]
theorem sc__law_value : FnScope N__law_value P__law_value (defScope s__law_value) := ⟨rfl, rfl, rfl, by decide +kernel, rfl, by decide +kernel, by decide +kernel⟩
theorem d__law_value (F : FunAt K mg "_law_value" s__law_value P__law_value) (Z : Bl mg) : DefAt P w K mg base CX0 1 "_law_value" P__law_value (sp_lvalue K) := by
  refine F.ok sc__law_value (fun vs H Q E h => ?_) (fun f cdv A outer s H vs Q E hr h => ?_)
  · obtain ⟨_, _, _, _, rfl, _⟩ := h
    rfl
  obtain ⟨v, d, s1, m, rfl, h1, hd, ss, sm, hin, q⟩ := h
  have hu := hu_of hr
  obtain ⟨a, b, us, rfl, a1, a2, a3⟩ := h1.sum
  have l1 := a3.len
  rw [List.length_map] at l1
  refine ⟨_, (pss_cons (ps_set (i := 2) sc__law_value.nd rfl (Or.inl rfl) (pe_ix (ix_tupK K) (pv 0) pe_int (fun _ _ => rfl)))
        (pss_cons (ps_for PassesOwn.never rfl (pi_tupK K (pe_ix (ix_tupK K) (pv 0) pe_int (fun _ _ => rfl))) (pg_name (i := 3) sc__law_value.nd rfl (Or.inl rfl))
          (pss_one (ps_set (i := 2) sc__law_value.nd rfl (Or.inl rfl) (pe_op op_add (pv 2) (pe_op op_mulW (pe_ix (ix_tupK K) (pv 3) pe_int (fun _ _ => rfl)) (pe_dget hu (pv 1) (pe_ix (ix_tupK K) (pv 3) pe_int (fun _ _ => rfl)) (fun _ _ => rfl)))))))
        (pss_one (ps_ret (pv 2))))), ?_⟩
  walk_at "go"
  refine XS.x_ixT a1 (XS.atI_get (i := 0) rfl) ?_
  walk_at "go"
  refine XS.x_ixT a1 (XS.atI_get (i := 1) rfl) ?_
  refine XS.x_forT a2 (fun i σ H' => ∃ y3 : Option V, σ = [some (.ref a), some (.ref d), some (.int (s1.1 + dot (look m) (s1.2.take i))), y3] ∧ H' = H) ⟨none, ?_, rfl⟩ (fun i σ H' _ ⟨_, _, e⟩ => by rw [e]; exact a2) ?_ ?_
  · rw [List.take_zero, dot_nil, Int.add_zero]
    rfl
  · rintro i u σ H' hi ⟨y3, rfl, rfl⟩
    have hlt : i < s1.2.length := by rw [← l1]; exact (List.getElem?_eq_some_iff.mp hi).1
    have hp : s1.2[i]? = some s1.2[i] := List.getElem?_eq_getElem hlt
    generalize s1.2[i] = p at hp
    have hmem := List.mem_of_getElem? hp
    obtain ⟨c, rfl, hc⟩ := (pair_at a3 hp hi).pair
    walk_at "go"
    refine XS.x_ixT hc (XS.atI_get (i := 1) rfl) ?_
    walk_at "go"
    refine XS.x_ixT hc (XS.atI_get (i := 0) rfl) ?_
    have g := DGet.k (k := Sum.inr p.1) hd
    rw [dOf_val] at g
    have hv := getP_look (hin p hmem)
    rw [hv] at g
    refine ⟨d, _, rfl, g, ?_⟩
    refine XS.x_I (XS.mul_ok (ss.2 p hmem) (look_sml sm hv)) ?_
    walk_at "go"
    refine ⟨some (.ref c), ?_, rfl⟩
    rw [XS.take_more hp, dot_app, dot_cons, dot_nil, Int.add_zero, ← Int.add_assoc]
    rfl
  · rintro σ H' ⟨y3, rfl, rfl⟩
    walk_at "go"
    rw [l1, List.take_length]
    exact q

abbrev s__law_sum_by : Stmt := topS 118
abbrev N__law_sum_by : List Str := ["_law_cell", "_law_names", "_law_wide", "_law_number", "_law_parts", "_law_name", "_law_by"]
abbrev P__law_sum_by : List Str := ["_law_cell", "_law_names", "_law_wide"]
theorem sc__law_sum_by : FnScope N__law_sum_by P__law_sum_by (defScope s__law_sum_by) := ⟨rfl, rfl, rfl, by decide +kernel, rfl, by decide +kernel, by decide +kernel⟩
theorem d__law_sum_by (F : FunAt K mg "_law_sum_by" s__law_sum_by P__law_sum_by) (Z : Bl mg) : DefAt P w K mg base CX0 1 "_law_sum_by" P__law_sum_by (sp_sum_by K) := by
  refine F.ok sc__law_sum_by (fun vs H Q E h => ?_) (fun f cdv A outer s H vs Q E hr h => ?_)
  · obtain ⟨_, _, _, _, rfl, _⟩ := h
    rfl
  obtain ⟨c, wd, nl, names, rfl, h1, nd, hl, w0, w1, q⟩ := h
  refine ⟨_, (pss_cons (ps_set (i := 3) sc__law_sum_by.nd rfl (Or.inl rfl) (pv 0))
        (pss_cons (ps_set (i := 4) sc__law_sum_by.nd rfl (Or.inl rfl) (pe_lst pa_nil))
        (pss_cons (ps_for PassesOwn.never rfl (pi_listK K (pe_callB (cr_sortedSK K) (by rfl) Z.sorted (by decide +kernel) (pa_cons (pv 1) pa_nil))) (pg_name (i := 5) sc__law_sum_by.nd rfl (Or.inl rfl))
          (pss_cons (ps_set (i := 3) sc__law_sum_by.nd rfl (Or.inl rfl) (pe_op op_mod (pe_op op_add (pe_op op_mul (pv 3) pe_int) pe_int) pe_int))
        (pss_cons (ps_set (i := 6) sc__law_sum_by.nd rfl (Or.inl rfl) (pe_op op_sub (pe_op op_modN (pe_op op_fdiv (pv 3) pe_int) (pe_op op_add (pe_op op_mul pe_int (pv 2)) pe_int)) (pv 2)))
        (pss_one (ps_if (pt_cmpR op_ne (pv 6) pe_int (nomark _))
          (pss_one (ps_expr (pe_bm PySem.F.plainAttrs_list PySem.F.slot_list_append PySem.F.type_list_append mt_append (pv 4) (pa_cons (pe_tup (pa_cons (pv 5) (pa_cons (pv 6) pa_nil))) pa_nil)))) pss_nil)))))
        (pss_cons (ps_set (i := 3) sc__law_sum_by.nd rfl (Or.inl rfl) (pe_op op_mod (pe_op op_add (pe_op op_mul (pv 3) pe_int) pe_int) pe_int))
        (pss_one (ps_ret (pe_tup (pa_cons (pe_op op_sub (pe_op op_mod (pe_op op_fdiv (pv 3) pe_int) pe_int) pe_int) (pa_cons (pe_callTy (call_tupK K) (by rfl) Z.tuple (by decide +kernel) (pa_cons (pv 4) pa_nil)) pa_nil))))))))), ?_⟩
  walk_at "go"
  refine ⟨XS.sz (by simp), fun p hp => ?_⟩
  obtain ⟨e1, h5⟩ := XS.newly (o := HO.lst _) hp
  generalize hH1 : upd _ p _ = H1 at e1 h5 ⊢
  walk_at "go"
  refine XS.x_sortS (e1.seq h1) (by omega) fun ys yl H2 hp2 hs2 hy2 e2 h2 => ?_
  have hne : p ≠ yl := fun q => by subst q; rw [h5] at hy2; cases hy2
  have es := srt_is nd hp2 hs2
  subst es
  have hlen : (srt names).length ≤ 8 := Nat.le_trans (srt_len names) hl
  refine XS.x_forL (SqL.of h2) (fun i σ H' => ∃ (y5 y6 : Option V) (us : List V), σ = [some (.int c), some (.ref nl), some (.int wd), some (.int (sumRun wd c ((srt names).take i)).1), some (.ref p), y5, y6] ∧ Same H H' ∧ H' yl = some (.lst ((srt names).map V.str)) ∧
    H' p = some (.lst us) ∧ DpAll K H' us ((sumRun wd c ((srt names).take i)).2.map prT) ∧ us.length ≤ i) ⟨none, none, [], rfl, e1.trans e2, h2, e2 _ _ h5, .nil, Nat.le_refl _⟩ (fun i σ H' _ ⟨_, _, _, _, _, h, _⟩ => SqL.of h) ?_ ?_
  · rintro i x σ H' hi ⟨y5, y6, us, rfl, e3, h3, h4, d4, l4⟩
    obtain ⟨z, hz, rfl⟩ := map_at hi
    have hmod : 0 ≤ mixN (sumRun wd c ((srt names).take i)).1 / 7 := Int.ediv_nonneg (mixN_b _).1 (by decide)
    have ii : i < (srt names).length := (List.getElem?_eq_some_iff.mp hz).1
    have tk : sumRun wd c ((srt names).take (i + 1)) = sumTurn wd (sumRun wd c ((srt names).take i)) z := by rw [XS.take_more hz, sumRun_more]
    walk_at "go"
    refine XS.x_I (by omega) ?_
    walk_at "go"
    rw [Int.fmod_eq_emod_of_nonneg _ (by omega : 0 ≤ 2 * wd + 1)]
    refine XS.x_dn (fun e => ?_) (fun e => ?_)
    · walk_at "go"
      refine XS.x_tyL' (XS.x_tyL h4) ?_
      walk_at "go"
      refine ⟨XS.sz (by simp), fun t ht => ?_⟩
      obtain ⟨e6, h6⟩ := XS.newly (o := HO.tup _) ht
      generalize hH6 : upd _ t _ = H6 at e6 h6 ⊢
      walk_at "go"
      have k := keeps_lst (ys := us ++ [.ref t]) (e6 _ _ h4)
      refine XS.x_app (e6 _ _ h4) (szl (by omega)) ?_
      walk_at "go"
      refine ⟨some (.str z), some (.int (byOf wd (mixN (sumRun wd c ((srt names).take i)).1))), us ++ [.ref t], ?_, XS.same_mut (e3.trans e6) hp, ?_, upd_same, ?_, by rw [List.length_append]; show us.length + 1 ≤ i + 1; omega⟩
      · rw [tk]
        rfl
      · rw [upd_ne (fun q => hne q.symm)]
        exact e6 _ _ h3
      · rw [tk]
        show DpAll K _ _ (List.map prT (if byOf wd (mixN (sumRun wd c ((srt names).take i)).1) = 0 then _ else _))
        rw [if_neg (show ¬ byOf wd (mixN (sumRun wd c ((srt names).take i)).1) = 0 from e), List.map_append]
        refine (DpAll.keeps k _ _ (im_pairs _) (DpAll.same e6 _ _ d4)).app (.one ?_)
        exact Dp.keeps k _ _ (im_pair _) (Dp.mkPair (p := (z, byOf wd (mixN (sumRun wd c ((srt names).take i)).1))) (SqT.of h6))
    · walk_at "go"
      refine ⟨some (.str z), some (.int (byOf wd (mixN (sumRun wd c ((srt names).take i)).1))), us, ?_, e3, h3, h4, ?_, by omega⟩
      · rw [tk]
        rfl
      · rw [tk]
        show DpAll K _ _ (List.map prT (if byOf wd (mixN (sumRun wd c ((srt names).take i)).1) = 0 then _ else _))
        rw [if_pos (show byOf wd (mixN (sumRun wd c ((srt names).take i)).1) = 0 from e)]
        exact d4
  · rintro σ H' ⟨y5, y6, us, rfl, e3, h3, h4, d4, l4⟩
    rw [List.length_map, List.take_length] at d4 ⊢
    walk_at "go"
    refine XS.x_tupL (SqL.of h4) fun t1 H4 ht1 e4 h6 => ?_
    walk_at "go"
    refine ⟨XS.sz (by simp), fun t ht => ?_⟩
    obtain ⟨e7, h7⟩ := XS.newly (o := HO.tup _) ht
    generalize hH7 : upd _ t _ = H7 at e7 h7 ⊢
    exact q t _ (e3.trans (e4.trans e7)) (Dp.mkSum (s := sumBy c names wd) (SqT.of h7) (SqT.of (e7 _ _ h6)) (DpAll.same (e4.trans e7) _ _ d4))

abbrev s_parts_within : Stmt := topS 66
abbrev N_parts_within : List Str := ["statement", "kind"]
abbrev P_parts_within : List Str := ["statement"]
theorem sc_parts_within : FnScope N_parts_within P_parts_within (defScope s_parts_within) := ⟨rfl, rfl, rfl, by decide +kernel, rfl, by decide +kernel, by decide +kernel⟩
theorem d_parts_within {oS bN : Addr} (Cn : Cs K mg oS bN) (F : FunAt K mg "parts_within" s_parts_within P_parts_within) (Z : Bl mg) : DefAt P w K mg base CX0 1 "parts_within" P_parts_within (sp_parts K) := by
  refine F.ok sc_parts_within (fun vs H Q E h => ?_) (fun f cdv A outer s H vs Q E hr h => ?_)
  · obtain ⟨_, _, rfl, _⟩ := h
    rfl
  obtain ⟨v, a, rfl, h1, q⟩ := h
  refine ⟨_, (pss_cons (ps_set (i := 1) sc_parts_within.nd rfl (Or.inl rfl) (pe_ix (ix_tupK K) (pv 0) pe_int (fun _ _ => rfl)))
        (pss_cons (ps_if (pt_cmpR (op_inK K) (pv 1) (pe_glob (v := .ref _) rfl Cn.c_OVER_SUMS rfl) (by rfl))
          (pss_one (ps_ret (pe_tup pa_nil))) pss_nil)
        (pss_cons (ps_if (pt_cmpR op_eq (pv 1) pe_str (nomark _))
          (pss_one (ps_ret (pe_tup (pa_cons (pe_ix (ix_tupK K) (pv 0) pe_int (fun _ _ => rfl)) pa_nil)))) pss_nil)
        (pss_cons (ps_if (pt_cmpR (op_inK K) (pv 1) (pe_glob (v := .ref _) rfl Cn.c_BINDING rfl) (by rfl))
          (pss_one (ps_ret (pe_tup (pa_cons (pe_ix (ix_tupK K) (pv 0) pe_int (fun _ _ => rfl)) pa_nil)))) pss_nil)
        (pss_one (ps_ret (pe_ix (ix_tupK K) (pv 0) pe_int (fun _ _ => rfl)))))))), ?_⟩
  obtain ⟨p, us, rfl, hp, ds, eds, hds⟩ := Dp.stm h1
  walk_at "go"
  refine XS.x_ixT hp (XS.atI_get (i := 0) rfl) ?_
  walk_at "go"
  refine XS.x_inT (Cn.s_OVER_SUMS _) (in_over a) rfl ?_
  walk_at "go"
  have none : isEnd a = true → parts a = [] := fun e => by cases a <;> first | rfl | cases e
  refine XS.x_2 (fun e => ?_) (fun e => ?_)
  · walk_at "go"
    refine ⟨XS.sz (by simp), fun t ht => ?_⟩
    obtain ⟨e1, h5⟩ := XS.newly (o := HO.tup _) ht
    refine q t _ e1 ?_
    rw [none e]
    exact .tup (SqT.of h5) .nil
  · walk_at "go"
    rw [is_not]
    cases a with
    | above | nought | goes => cases e
    | neg c =>
      refine XS.x_yes rfl ?_
      walk_at "go"
      cases eds
      cases hds with
      | cons g1 g2 =>
      cases g2
      refine XS.x_ixT hp (XS.atI_get (i := 1) rfl) ?_
      walk_at "go"
      refine ⟨XS.sz (by simp), fun t ht => ?_⟩
      obtain ⟨e1, h5⟩ := XS.newly (o := HO.tup _) ht
      exact q t _ e1 (.tup (SqT.of h5) (.one (Dp.same e1 _ _ g1)))
    | con o l =>
      refine XS.x_no rfl ?_
      walk_at "go"
      refine XS.x_inT (Cn.s_BINDING _) (in_bind _) rfl ?_
      walk_at "go"
      refine XS.x_no rfl ?_
      walk_at "go"
      cases eds
      cases hds with
      | cons g1 g2 =>
      cases g2
      refine XS.x_ixT hp (XS.atI_get (i := 1) rfl) ?_
      rw [toDs_map] at g1
      cases g1 with
      | tup hs ha => exact q _ _ (Same.refl _) (.tup hs ha)
    | bnd o x c =>
      refine XS.x_no rfl ?_
      walk_at "go"
      refine XS.x_inT (Cn.s_BINDING _) (in_bind _) rfl ?_
      walk_at "go"
      refine XS.x_yes rfl ?_
      walk_at "go"
      cases eds
      cases hds with
      | cons g1 g2 =>
      cases g1
      cases g2 with
      | cons g3 g4 =>
      cases g4
      refine XS.x_ixT hp (XS.atI_get (i := 2) rfl) ?_
      walk_at "go"
      refine ⟨XS.sz (by simp), fun t ht => ?_⟩
      obtain ⟨e1, h5⟩ := XS.newly (o := HO.tup _) ht
      exact q t _ e1 (.tup (SqT.of h5) (.one (Dp.same e1 _ _ g3)))

abbrev s_is_plain : Stmt := topS 63
abbrev N_is_plain : List Str := ["statement", "part"]
abbrev P_is_plain : List Str := ["statement"]
theorem sc_is_plain : FnScope N_is_plain P_is_plain (defScope s_is_plain) := ⟨rfl, rfl, rfl, by decide +kernel, rfl, by decide +kernel, by decide +kernel⟩
theorem plain_step {n : Nat} {oS bN : Addr} (Cn : Cs K mg oS bN) (F : FunAt K mg "is_plain" s_is_plain P_is_plain) (Z : Bl mg) (D_parts_within : DefAt P w K mg base CX0 1 "parts_within" P_parts_within (sp_parts K))
    (D_is_plain : DefAt P w K mg base CX0 (n + 1) "is_plain" P_is_plain (sp_is_plain n K)) : DefAt P w K mg base CX0 (n + 2) "is_plain" P_is_plain (sp_is_plain (n + 1) K) := by
  refine F.ok sc_is_plain (fun vs H Q E h => ?_) (fun f cdv A outer s H vs Q E hr h => ?_)
  · obtain ⟨_, _, rfl, _⟩ := h
    rfl
  obtain ⟨v, a, rfl, h1, hn, q⟩ := h
  refine ⟨_, (pss_cons (ps_if (pt_cmpR (op_inK K) (pe_ix (ix_tupK K) (pv 0) pe_int (fun _ _ => rfl)) (pe_glob (v := .ref _) rfl Cn.c_BINDING rfl) (by rfl))
          (pss_one (ps_ret pe_bl)) pss_nil)
        (pss_cons (ps_for PassesOwn.never rfl (pi_tupK K (pe_callD D_parts_within (hr.mono (by first | exact Nat.le_refl _ | omega | decide)) rfl pass0 (pa_cons (pv 0) pa_nil))) (pg_name (i := 1) sc_is_plain.nd rfl (Or.inl rfl))
          (pss_one (ps_if (pt_not (pt_val (pe_callD D_is_plain (hr.mono (by first | exact Nat.le_refl _ | omega | decide)) rfl pass0 (pa_cons (pv 1) pa_nil))))
          (pss_one (ps_ret pe_bl)) pss_nil)))
        (pss_one (ps_ret pe_bl)))), ?_⟩
  obtain ⟨p, us, rfl, hp, ds, eds, hds⟩ := Dp.stm h1
  walk_at "go"
  refine XS.x_ixT hp (XS.atI_get (i := 0) rfl) ?_
  walk_at "go"
  refine XS.x_inT (Cn.s_BINDING _) (in_bind a) rfl ?_
  walk_at "go"
  refine XS.x_2 (fun e => ?_) (fun e => ?_)
  · walk_at "go"
    have ee : plainB a = false := by rw [plainB_eq, e]; rfl
    rw [ee] at q
    exact q _ (Same.refl _)
  · walk_at "go"
    refine ⟨_, a, rfl, h1, fun t H1 e1 d1 => ?_⟩
    walk_at "go"
    cases d1 with
    | tup hs ha =>
    have l1 := ha.len
    rw [List.length_map] at l1
    refine XS.x_forT hs (fun i σ H' => ∃ y1 : Option V, σ = [some (.ref p), y1] ∧ Same H1 H' ∧ ((parts a).take i).all plainB = true) ⟨none, rfl, Same.refl _, by rw [List.take_zero]; rfl⟩ (fun i σ H' _ ⟨_, _, e, _⟩ => e.seqT hs) ?_ ?_
    · rintro i u σ H' hi ⟨y1, rfl, e2, al⟩
      have hlt : i < (parts a).length := by rw [← l1]; exact (List.getElem?_eq_some_iff.mp hi).1
      have hb : (parts a)[i]? = some (parts a)[i] := List.getElem?_eq_getElem hlt
      generalize (parts a)[i] = b at hb
      have hmem := List.mem_of_getElem? hb
      obtain ⟨dd, hdd, du⟩ := (DpAll.same e2 _ _ ha).getV hi
      rw [List.getElem?_map, hb] at hdd
      cases hdd
      walk_at "go"
      refine ⟨_, b, rfl, du, by have := dep_parts hmem; omega, fun H3 e3 => ?_⟩
      walk_at "go"
      cases hpb : plainB b with
      | true =>
        walk_at "go"
        refine ⟨_, rfl, e2.trans e3, ?_⟩
        rw [XS.take_more hb, List.all_append, al]
        simp [hpb]
      | false =>
        walk_at "go"
        have ee : plainB a = false := by
          rw [plainB_eq, e]
          have : (parts a).all plainB = false := Bool.eq_false_iff.mpr fun t => by rw [List.all_eq_true.mp t b hmem] at hpb; cases hpb
          rw [this]; rfl
        rw [ee] at q
        exact q _ (e1.trans (e2.trans e3))
    · rintro σ H' ⟨y1, rfl, e2, al⟩
      walk_at "go"
      rw [l1, List.take_length] at al
      have ee : plainB a = true := by rw [plainB_eq, e, al]; rfl
      rw [ee] at q
      exact q _ (e1.trans e2)
theorem plain_all {oS bN : Addr} (Cn : Cs K mg oS bN) (F : FunAt K mg "is_plain" s_is_plain P_is_plain) (Z : Bl mg) (D : DefAt P w K mg base CX0 1 "parts_within" P_parts_within (sp_parts K)) : ∀ n, DefAt P w K mg base CX0 (n + 1) "is_plain" P_is_plain (sp_is_plain n K)
  | 0 => F.never fun vs H Q E h => by
    obtain ⟨_, a, _, _, hn, _⟩ := h
    have := dep_pos a
    omega
  | n + 1 => plain_step Cn F Z D (plain_all Cn F Z D n)

abbrev s_refuse_unless_plain : Stmt := topS 65
abbrev N_refuse_unless_plain : List Str := ["statement"]
abbrev P_refuse_unless_plain : List Str := ["statement"]
theorem sc_refuse_unless_plain : FnScope N_refuse_unless_plain P_refuse_unless_plain (defScope s_refuse_unless_plain) := ⟨rfl, rfl, rfl, by decide +kernel, rfl, by decide +kernel, by decide +kernel⟩
theorem d_refuse_unless_plain {eS eV eP eN : Addr} (Y : Er K mg eS eV eP eN) (F : FunAt K mg "refuse_unless_plain" s_refuse_unless_plain P_refuse_unless_plain) (Z : Bl mg) (D_is_plain : DefAt P w K mg base CX0 61 "is_plain" P_is_plain (sp_is_plain 60 K)) :
    DefAt P w K mg base (L2.CX P w) 62 "refuse_unless_plain" P_refuse_unless_plain (sp_refuse K eP) := by
  refine F.okX sc_refuse_unless_plain (fun vs H Q E h => ?_) (fun f cdv A outer s H vs Q E hr h => ?_)
  · obtain ⟨_, _, rfl, _⟩ := h
    rfl
  obtain ⟨v, a, rfl, h1, hn, q1, q2⟩ := h
  refine ⟨_, (pss_one (ps_if (pt_not (pt_val (pe_callD D_is_plain (hr.mono (by first | exact Nat.le_refl _ | omega | decide)) rfl pass0 (pa_cons (pv 0) pa_nil))))
          (pss_one (ps_raise rfl (takes_of rfl rfl rfl rfl) (pmk_ownA PySem.F.excBase_ValueError Y.x_NotPlain Y.g_NotPlain Y.k_NotPlain (raises_own Y.b_NotPlain Y.t_NotPlain) rfl (pa_cons pe_str pa_nil)))) pss_nil)), ?_⟩
  walk_at "go"
  refine ⟨v, a, rfl, h1, hn, fun H1 e1 => ?_⟩
  walk_at "go"
  cases hp : plainB a with
  | true =>
    walk_at "go"
    exact q1 hp _ e1
  | false =>
    walk_at "go"
    exact ⟨XS.sz (by simp), q2 hp _ e1⟩

abbrev s__law_end_by : Stmt := topS 119
abbrev N__law_end_by : List Str := ["_law_cell", "_law_names", "_law_wide", "_law_most", "_law_one"]
abbrev P__law_end_by : List Str := ["_law_cell", "_law_names", "_law_wide", "_law_most"]
theorem sc__law_end_by : FnScope N__law_end_by P__law_end_by (defScope s__law_end_by) := ⟨rfl, rfl, rfl, by decide +kernel, rfl, by decide +kernel, by decide +kernel⟩
theorem d__law_end_by (F : FunAt K mg "_law_end_by" s__law_end_by P__law_end_by) (Z : Bl mg) (D__law_sum_by : DefAt P w K mg base CX0 1 "_law_sum_by" P__law_sum_by (sp_sum_by K)) : DefAt P w K mg base CX0 2 "_law_end_by" P__law_end_by (sp_end_by K) := by
  refine F.ok sc__law_end_by (fun vs H Q E h => ?_) (fun f cdv A outer s H vs Q E hr h => ?_)
  · obtain ⟨_, _, _, _, _, rfl, _⟩ := h
    rfl
  obtain ⟨c, wd, most, nl, names, rfl, h1, nd, hl, w0, w1, hm, q⟩ := h
  refine ⟨_, (pss_cons (ps_set (i := 4) sc__law_end_by.nd rfl (Or.inl rfl) (pe_callD D__law_sum_by (hr.mono (by first | exact Nat.le_refl _ | omega | decide)) rfl pass0 (pa_cons (pe_op op_fdiv (pv 0) pe_int) (pa_cons (pv 1) (pa_cons (pv 2) pa_nil)))))
        (pss_cons (ps_if (pt_cmpR op_eq (pe_op op_mod (pv 0) pe_int) pe_int (nomark _))
          (pss_one (ps_ret (pe_tup (pa_cons pe_str (pa_cons (pv 4) pa_nil))))) pss_nil)
        (pss_cons (ps_if (pt_cmpR op_eq (pe_op op_mod (pv 0) pe_int) pe_int (nomark _))
          (pss_one (ps_ret (pe_tup (pa_cons pe_str (pa_cons (pe_op op_add pe_int (pe_op op_modN (pe_op op_fdiv (pv 0) pe_int) (pv 3))) (pa_cons (pv 4) pa_nil)))))) pss_nil)
        (pss_one (ps_ret (pe_tup (pa_cons pe_str (pa_cons (pv 4) pa_nil)))))))), ?_⟩
  walk_at "go"
  refine ⟨c / 12, wd, nl, names, rfl, h1, nd, hl, w0, w1, fun t H1 e1 d1 => ?_⟩
  walk_at "go"
  unfold endBy at q
  refine XS.x_d (fun e => ?_) (fun e => ?_)
  · rw [if_pos e] at q
    walk_at "go"
    refine ⟨XS.sz (by simp), fun t2 ht2 => ?_⟩
    obtain ⟨e2, h2⟩ := XS.newly (o := HO.tup _) ht2
    generalize hH2 : upd _ t2 _ = H2 at e2 h2 ⊢
    exact q _ _ (e1.trans e2) (Dp.mkNought (SqT.of h2) (Dp.same e2 _ _ d1))
  rw [if_neg e] at q
  walk_at "go"
  refine XS.x_d (fun e => ?_) (fun e => ?_)
  · rw [if_pos e] at q
    walk_at "go"
    refine XS.x_I (by omega) ?_
    walk_at "go"
    rw [Int.fmod_eq_emod_of_nonneg _ (by omega : 0 ≤ most)]
    refine ⟨XS.sz (by simp), fun t2 ht2 => ?_⟩
    obtain ⟨e2, h2⟩ := XS.newly (o := HO.tup _) ht2
    generalize hH2 : upd _ t2 _ = H2 at e2 h2 ⊢
    exact q _ _ (e1.trans e2) (Dp.mkGoes (SqT.of h2) (Dp.same e2 _ _ d1))
  · rw [if_neg e] at q
    walk_at "go"
    refine ⟨XS.sz (by simp), fun t2 ht2 => ?_⟩
    obtain ⟨e2, h2⟩ := XS.newly (o := HO.tup _) ht2
    generalize hH2 : upd _ t2 _ = H2 at e2 h2 ⊢
    exact q _ _ (e1.trans e2) (Dp.mkAbove (SqT.of h2) (Dp.same e2 _ _ d1))
abbrev s__law_plain_by : Stmt := topS 120
abbrev N__law_plain_by : List Str := ["_law_script", "_law_first", "_law_count", "_law_names", "_law_wide", "_law_most", "_law_begin", "_law_made_of", "_law_k", "_law_cell", "_law_end", "_law_way"]
abbrev P__law_plain_by : List Str := ["_law_script", "_law_first", "_law_count", "_law_names", "_law_wide", "_law_most"]
theorem sc__law_plain_by : FnScope N__law_plain_by P__law_plain_by (defScope s__law_plain_by) := ⟨rfl, rfl, rfl, by decide +kernel, rfl, by decide +kernel, by decide +kernel⟩
theorem d__law_plain_by (F : FunAt K mg "_law_plain_by" s__law_plain_by P__law_plain_by) (Z : Bl mg) (D__law_cell_at : DefAt P w K mg base CX0 1 "_law_cell_at" P__law_cell_at (sp_cell_at K)) (D__law_end_by : DefAt P w K mg base CX0 2 "_law_end_by" P__law_end_by (sp_end_by K)) :
    DefAt P w K mg base CX0 3 "_law_plain_by" P__law_plain_by (sp_plain_by K) := by
  refine F.ok sc__law_plain_by (fun vs H Q E h => ?_) (fun f cdv A outer s H vs Q E hr h => ?_)
  · obtain ⟨_, _, _, _, _, _, _, _, rfl, _⟩ := h
    rfl
  obtain ⟨a, ns, first, count, wd, most, nl, names, rfl, hS, f0, f1, c0, c1, h1, nd, hl, w0, w1, hm, q⟩ := h
  refine ⟨_, (pss_cons (ps_set (i := 6) sc__law_plain_by.nd rfl (Or.inl rfl) (pe_callD D__law_cell_at (hr.mono (by first | exact Nat.le_refl _ | omega | decide)) rfl pass0 (pa_cons (pv 0) (pa_cons (pv 1) pa_nil))))
        (pss_cons (ps_if (pt_cmpR op_eq (pe_op op_mod (pv 6) pe_int) pe_int (nomark _))
          (pss_one (ps_ret (pe_tup (pa_cons pe_str (pa_cons (pe_tup pa_nil) pa_nil))))) pss_nil)
        (Evl.pss_cut (ps_if (pt_cmpR op_eq (pe_op op_mod (pv 6) pe_int) pe_int (nomark _))
          (pss_one (ps_set (i := 3) sc__law_plain_by.nd rfl (Or.inl rfl) (pe_lst pa_nil))) pss_nil)
        (pss_cons (ps_set (i := 7) sc__law_plain_by.nd rfl (Or.inl rfl) (pe_callD D__law_end_by (hr.mono (by first | exact Nat.le_refl _ | omega | decide)) rfl pass0 (pa_cons (pv 6) (pa_cons (pv 3) (pa_cons (pv 4) (pa_cons (pv 5) pa_nil))))))
        (pss_cons (ps_for PassesOwn.never rfl (pi_range2 (by rfl) Z.range (pa_cons pe_int (pa_cons (pv 2) pa_nil))) (pg_name (i := 8) sc__law_plain_by.nd rfl (Or.inl rfl))
          (pss_cons (ps_set (i := 9) sc__law_plain_by.nd rfl (Or.inl rfl) (pe_op op_add (pe_callD D__law_cell_at (hr.mono (by first | exact Nat.le_refl _ | omega | decide)) rfl pass0 (pa_cons (pv 0) (pa_cons (pe_op op_add (pv 1) (pv 8)) pa_nil))) (pe_op op_mul pe_int (pv 8))))
        (pss_cons (ps_set (i := 10) sc__law_plain_by.nd rfl (Or.inl rfl) (pe_callD D__law_end_by (hr.mono (by first | exact Nat.le_refl _ | omega | decide)) rfl pass0 (pa_cons (pe_op op_fdiv (pv 9) pe_int) (pa_cons (pv 3) (pa_cons (pv 4) (pa_cons (pv 5) pa_nil))))))
        (pss_cons (ps_set (i := 11) sc__law_plain_by.nd rfl (Or.inl rfl) (pe_op op_mod (pv 9) pe_int))
        (pss_cons (ps_if (pt_cmpR op_lt (pv 11) pe_int (nomark _))
          (pss_one (ps_set (i := 7) sc__law_plain_by.nd rfl (Or.inl rfl) (pe_tup (pa_cons (pe_ix (ix_listK K) (pe_lst (pa_cons pe_str (pa_cons pe_str pa_nil))) (pv 11) (fun _ _ => rfl)) (pa_cons (pe_tup (pa_cons (pv 7) (pa_cons (pv 10) pa_nil))) pa_nil))))) pss_nil)
        (pss_cons (ps_if (pt_cmpR op_eq (pv 11) pe_int (nomark _))
          (pss_one (ps_set (i := 7) sc__law_plain_by.nd rfl (Or.inl rfl) (pe_tup (pa_cons pe_str (pa_cons (pe_tup (pa_cons (pe_tup (pa_cons pe_str (pa_cons (pv 7) pa_nil))) (pa_cons (pv 10) pa_nil))) pa_nil))))) pss_nil)
        (pss_cons (ps_if (pt_cmpR op_eq (pv 11) pe_int (nomark _))
          (pss_one (ps_set (i := 7) sc__law_plain_by.nd rfl (Or.inl rfl) (pe_tup (pa_cons pe_str (pa_cons (pe_tup (pa_cons pe_str (pa_cons (pe_tup (pa_cons (pv 10) (pa_cons (pv 7) (pa_cons (pe_tup (pa_cons pe_str (pa_cons (pe_tup pa_nil) pa_nil))) pa_nil)))) pa_nil))) pa_nil))))) pss_nil)
        (pss_cons (ps_if (pt_cmpR op_eq (pv 11) pe_int (nomark _))
          (pss_one (ps_set (i := 7) sc__law_plain_by.nd rfl (Or.inl rfl) (pe_tup (pa_cons pe_str (pa_cons (pe_tup (pa_cons (pe_tup (pa_cons pe_str (pa_cons (pe_tup (pa_cons (pv 10) (pa_cons (pv 7) pa_nil))) pa_nil))) (pa_cons (pe_tup (pa_cons pe_str (pa_cons (pv 10) pa_nil))) pa_nil))) pa_nil))))) pss_nil)
        (pss_cons (ps_if (pt_cmpR op_eq (pv 11) pe_int (nomark _))
          (pss_one (ps_set (i := 7) sc__law_plain_by.nd rfl (Or.inl rfl) (pe_tup (pa_cons pe_str (pa_cons (pe_tup (pa_cons (pv 10) (pa_cons (pe_tup (pa_cons pe_str (pa_cons (pe_tup pa_nil) pa_nil))) (pa_cons (pv 7) pa_nil)))) pa_nil))))) pss_nil)
        (pss_cons (ps_if (pt_cmpR op_eq (pv 11) pe_int (nomark _))
          (pss_one (ps_set (i := 7) sc__law_plain_by.nd rfl (Or.inl rfl) (pe_tup (pa_cons pe_str (pa_cons (pe_tup (pa_cons (pe_tup (pa_cons pe_str (pa_cons (pe_tup (pa_cons pe_str (pa_cons (pv 7) pa_nil))) pa_nil))) (pa_cons (pe_tup (pa_cons pe_str (pa_cons (pv 10) pa_nil))) pa_nil))) pa_nil))))) pss_nil)
        (pss_cons (ps_if (pt_cmpR op_eq (pv 11) pe_int (nomark _))
          (pss_one (ps_set (i := 7) sc__law_plain_by.nd rfl (Or.inl rfl) (pe_tup (pa_cons pe_str (pa_cons (pe_tup (pa_cons (pe_tup (pa_cons pe_str (pa_cons (pe_tup (pa_cons (pv 7) pa_nil)) pa_nil))) (pa_cons (pe_tup (pa_cons pe_str (pa_cons (pe_tup (pa_cons (pe_tup (pa_cons pe_str (pa_cons (pe_tup (pa_cons (pv 10) pa_nil)) pa_nil))) pa_nil)) pa_nil))) pa_nil))) pa_nil))))) pss_nil)
        (pss_one (ps_if (pt_cmpR op_eq (pv 11) pe_int (nomark _))
          (pss_one (ps_set (i := 7) sc__law_plain_by.nd rfl (Or.inl rfl) (pe_tup (pa_cons (pe_ix (ix_listK K) (pe_lst (pa_cons pe_str (pa_cons pe_str pa_nil))) (pe_op op_mod (pe_op op_fdiv (pv 9) pe_int) pe_int) (fun _ _ => rfl)) (pa_cons (pe_op (op_catK K) (pe_tup (pa_cons (pv 10) (pa_cons (pv 10) (pa_cons (pv 7) pa_nil)))) (pe_op (op_repU K) (pe_tup (pa_cons (pv 10) pa_nil)) (pe_op op_add pe_int (pe_op op_mod (pe_op op_fdiv (pv 9) pe_int) pe_int)))) pa_nil))))) pss_nil)))))))))))))
        (pss_one (ps_ret (pv 7)))))))), ?_⟩
  walk_at "go"
  refine ⟨a, ns, first, rfl, f0, hS, ?_⟩
  walk_at "go"
  unfold plainBy at q
  refine XS.x_d (fun e => ?_) (fun e => ?_)
  · rw [if_pos e] at q
    walk_at "go"
    refine ⟨XS.sz (by simp), fun t1 ht1 => ?_⟩
    obtain ⟨e1, h2⟩ := XS.newly (o := HO.tup _) ht1
    generalize hH1 : upd _ t1 _ = H1 at e1 h2 ⊢
    walk_at "go"
    refine ⟨XS.sz (by simp), fun t2 ht2 => ?_⟩
    obtain ⟨e2, h3⟩ := XS.newly (o := HO.tup _) ht2
    generalize hH2 : upd _ t2 _ = H2 at e2 h3 ⊢
    exact q _ _ (e1.trans e2) (Dp.mkCon (l := []) (SqT.of h3) rfl (SqT.of (e2 _ _ h2)) .nil)
  rw [if_neg e] at q
  refine XS.x_cut (fun σ H' => ∃ n2 : Addr, σ = [some (.ref a), some (.int first), some (.int count), some (.ref n2), some (.int wd), some (.int most), some (.int (cell ns first)), none, none, none, none, none] ∧ Same H H' ∧ SqL K H' n2 ((namesFor (cell ns first) names).map V.str)) ?_ ?_
  · walk_at "go"
    unfold namesFor
    refine XS.x_d (fun e => ?_) (fun e => ?_)
    · rw [if_pos e]
      walk_at "go"
      refine ⟨XS.sz (by simp), fun l hl => ?_⟩
      obtain ⟨e1, h2⟩ := XS.newly (o := HO.lst _) hl
      generalize hGH1 : upd _ l _ = H1 at e1 h2 ⊢
      walk_at "go"
      exact ⟨_, rfl, e1, SqL.of h2⟩
    · rw [if_neg e]
      walk_at "go"
      exact ⟨_, rfl, Same.refl _, h1⟩
  rintro σ H1 ⟨n2, rfl, e1, hn2⟩
  have nd2 : (namesFor (cell ns first) names).Nodup := by unfold namesFor; split; exact List.nodup_nil; exact nd
  have hl2 : (namesFor (cell ns first) names).length ≤ 8 := by unfold namesFor; split; exact Nat.zero_le _; exact hl
  generalize namesFor (cell ns first) names = nm2 at q hn2 nd2 hl2
  walk_at "go"
  refine ⟨_, wd, most, n2, nm2, rfl, hn2, nd2, hl2, w0, w1, hm, fun t2 H2 e2 d2 => ?_⟩
  walk_at "go"
  refine XS.x_forR2 (by omega) (fun i σ H' => ∃ (y8 y9 y10 y11 : Option V) (t : Addr), σ = [some (.ref a), some (.int first), some (.int count), some (.ref n2), some (.int wd), some (.int most), some (.int (cell ns first)), some (.ref t), y8, y9, y10, y11] ∧ Same H2 H' ∧
    Dp K H' (.ref t) (toD (plainRun ns first nm2 wd most i))) ⟨_, _, _, _, t2, rfl, Same.refl _, d2⟩ ?_ ?_
  · rintro i σ H' hi ⟨y8, y9, y10, y11, t, rfl, e3, d3⟩
    walk_at "go"
    refine ⟨a, ns, first + (1 + i), rfl, by omega, (e1.trans (e2.trans e3)).seq hS, ?_⟩
    walk_at "go"
    refine ⟨_, wd, most, n2, nm2, rfl, (e2.trans e3).seq hn2, nd2, hl2, w0, w1, hm, fun t4 H4 e4 d4 => ?_⟩
    walk_at "go"
    have step : toD (plainRun ns first nm2 wd most (i + 1)) = toD (turnBy ns first nm2 wd most (plainRun ns first nm2 wd most i) i) := rfl
    rw [step]
    unfold turnBy
    have p0 := Int.emod_nonneg (cell ns (first + (1 + i)) + 104729 * (1 + i)) (by decide : (9 : Int) ≠ 0)
    have p9 := Int.emod_lt_of_pos (cell ns (first + (1 + i)) + 104729 * (1 + i)) (by decide : (0 : Int) < 9)
    have d3' := Dp.same e4 _ _ d3
    generalize plainRun ns first nm2 wd most i = A1 at d3 d3'
    generalize endBy ((cell ns (first + (1 + i)) + 104729 * (1 + i)) / 9) nm2 wd most = E1 at d4
    generalize cell ns (first + (1 + i)) + 104729 * (1 + i) = c at p0 p9
    generalize c % 9 = way at p0 p9
    have hway : way = 0 ∨ way = 1 ∨ way = 2 ∨ way = 3 ∨ way = 4 ∨ way = 5 ∨ way = 6 ∨ way = 7 ∨ way = 8 := by omega
    rcases hway with rfl | rfl | rfl | rfl | rfl | rfl | rfl | rfl | rfl
    · walk_at "all"
      refine ⟨XS.sz (by simp), fun l1 hl1 => ?_⟩
      obtain ⟨e5, h5⟩ := XS.newly (o := HO.lst _) hl1
      generalize hGH5 : upd _ l1 _ = H5 at e5 h5 ⊢
      walk_at "go"
      refine XS.x_ixL (SqL.of h5) (XS.atI_get (i := 0) rfl) ?_
      walk_at "go"
      refine ⟨XS.sz (by simp), fun t6 ht6 => ?_⟩
      obtain ⟨e6, h6⟩ := XS.newly (o := HO.tup _) ht6
      generalize hGH6 : upd _ t6 _ = H6 at e6 h6 ⊢
      walk_at "go"
      refine ⟨XS.sz (by simp), fun t7 ht7 => ?_⟩
      obtain ⟨e7, h7⟩ := XS.newly (o := HO.tup _) ht7
      generalize hGH7 : upd _ t7 _ = H7 at e7 h7 ⊢
      walk_at "go"
      walk_at "all"
      have ek := e5.trans (e6.trans e7)
      exact ⟨_, _, _, _, t7, rfl, e3.trans (e4.trans ek), Dp.mkCon (o := true) (l := [A1, E1]) (SqT.of h7) rfl (SqT.of (e7 _ _ h6)) (.cons (Dp.same ek _ _ d3') (.one (Dp.same ek _ _ d4)))⟩
    · walk_at "all"
      refine ⟨XS.sz (by simp), fun l1 hl1 => ?_⟩
      obtain ⟨e5, h5⟩ := XS.newly (o := HO.lst _) hl1
      generalize hGH5 : upd _ l1 _ = H5 at e5 h5 ⊢
      walk_at "go"
      refine XS.x_ixL (SqL.of h5) (XS.atI_get (i := 1) rfl) ?_
      walk_at "go"
      refine ⟨XS.sz (by simp), fun t6 ht6 => ?_⟩
      obtain ⟨e6, h6⟩ := XS.newly (o := HO.tup _) ht6
      generalize hGH6 : upd _ t6 _ = H6 at e6 h6 ⊢
      walk_at "go"
      refine ⟨XS.sz (by simp), fun t7 ht7 => ?_⟩
      obtain ⟨e7, h7⟩ := XS.newly (o := HO.tup _) ht7
      generalize hGH7 : upd _ t7 _ = H7 at e7 h7 ⊢
      walk_at "go"
      walk_at "all"
      have ek := e5.trans (e6.trans e7)
      exact ⟨_, _, _, _, t7, rfl, e3.trans (e4.trans ek), XS.Dp.mkCon (o := false) (l := [A1, E1]) (SqT.of h7) rfl (SqT.of (e7 _ _ h6)) (.cons (Dp.same ek _ _ d3') (.one (Dp.same ek _ _ d4)))⟩
    · walk_at "all"
      refine ⟨XS.sz (by simp), fun t5 ht5 => ?_⟩
      obtain ⟨e5, h5⟩ := XS.newly (o := HO.tup _) ht5
      generalize hGH5 : upd _ t5 _ = H5 at e5 h5 ⊢
      walk_at "go"
      refine ⟨XS.sz (by simp), fun t6 ht6 => ?_⟩
      obtain ⟨e6, h6⟩ := XS.newly (o := HO.tup _) ht6
      generalize hGH6 : upd _ t6 _ = H6 at e6 h6 ⊢
      walk_at "go"
      refine ⟨XS.sz (by simp), fun t7 ht7 => ?_⟩
      obtain ⟨e7, h7⟩ := XS.newly (o := HO.tup _) ht7
      generalize hGH7 : upd _ t7 _ = H7 at e7 h7 ⊢
      walk_at "go"
      walk_at "all"
      have ek := (e5.trans (e6.trans e7))
      exact ⟨_, _, _, _, t7, rfl, e3.trans (e4.trans ek), (XS.Dp.mkCon (o := false) (l := [.neg A1, E1]) (SqT.of h7) rfl (e7.seqT (SqT.of h6)) (.cons (XS.Dp.mkNeg ((e6.trans e7).seqT (SqT.of h5)) (Dp.same ek _ _ d3')) (.cons (Dp.same ek _ _ d4) .nil)))⟩
    · walk_at "all"
      refine ⟨XS.sz (by simp), fun t5 ht5 => ?_⟩
      obtain ⟨e5, h5⟩ := XS.newly (o := HO.tup _) ht5
      generalize hGH5 : upd _ t5 _ = H5 at e5 h5 ⊢
      walk_at "go"
      refine ⟨XS.sz (by simp), fun t6 ht6 => ?_⟩
      obtain ⟨e6, h6⟩ := XS.newly (o := HO.tup _) ht6
      generalize hGH6 : upd _ t6 _ = H6 at e6 h6 ⊢
      walk_at "go"
      refine ⟨XS.sz (by simp), fun t7 ht7 => ?_⟩
      obtain ⟨e7, h7⟩ := XS.newly (o := HO.tup _) ht7
      generalize hGH7 : upd _ t7 _ = H7 at e7 h7 ⊢
      walk_at "go"
      refine ⟨XS.sz (by simp), fun t8 ht8 => ?_⟩
      obtain ⟨e8, h8⟩ := XS.newly (o := HO.tup _) ht8
      generalize hGH8 : upd _ t8 _ = H8 at e8 h8 ⊢
      walk_at "go"
      refine ⟨XS.sz (by simp), fun t9 ht9 => ?_⟩
      obtain ⟨e9, h9⟩ := XS.newly (o := HO.tup _) ht9
      generalize hGH9 : upd _ t9 _ = H9 at e9 h9 ⊢
      walk_at "go"
      walk_at "all"
      have ek := (e5.trans (e6.trans (e7.trans (e8.trans e9))))
      exact ⟨_, _, _, _, t9, rfl, e3.trans (e4.trans ek), (XS.Dp.mkNeg (SqT.of h9) (XS.Dp.mkCon (o := true) (l := [E1, A1, .con true []]) (e9.seqT (SqT.of h8)) rfl ((e8.trans e9).seqT (SqT.of h7)) (.cons (Dp.same ek _ _ d4) (.cons (Dp.same ek _ _ d3') (.cons (XS.Dp.mkCon (o := true) (l := []) ((e7.trans (e8.trans e9)).seqT (SqT.of h6)) rfl ((e6.trans (e7.trans (e8.trans e9))).seqT (SqT.of h5)) .nil) .nil)))))⟩
    · walk_at "all"
      refine ⟨XS.sz (by simp), fun t5 ht5 => ?_⟩
      obtain ⟨e5, h5⟩ := XS.newly (o := HO.tup _) ht5
      generalize hGH5 : upd _ t5 _ = H5 at e5 h5 ⊢
      walk_at "go"
      refine ⟨XS.sz (by simp), fun t6 ht6 => ?_⟩
      obtain ⟨e6, h6⟩ := XS.newly (o := HO.tup _) ht6
      generalize hGH6 : upd _ t6 _ = H6 at e6 h6 ⊢
      walk_at "go"
      refine ⟨XS.sz (by simp), fun t7 ht7 => ?_⟩
      obtain ⟨e7, h7⟩ := XS.newly (o := HO.tup _) ht7
      generalize hGH7 : upd _ t7 _ = H7 at e7 h7 ⊢
      walk_at "go"
      refine ⟨XS.sz (by simp), fun t8 ht8 => ?_⟩
      obtain ⟨e8, h8⟩ := XS.newly (o := HO.tup _) ht8
      generalize hGH8 : upd _ t8 _ = H8 at e8 h8 ⊢
      walk_at "go"
      refine ⟨XS.sz (by simp), fun t9 ht9 => ?_⟩
      obtain ⟨e9, h9⟩ := XS.newly (o := HO.tup _) ht9
      generalize hGH9 : upd _ t9 _ = H9 at e9 h9 ⊢
      walk_at "go"
      walk_at "all"
      have ek := (e5.trans (e6.trans (e7.trans (e8.trans e9))))
      exact ⟨_, _, _, _, t9, rfl, e3.trans (e4.trans ek), (XS.Dp.mkCon (o := true) (l := [.con false [E1, A1], .neg E1]) (SqT.of h9) rfl (e9.seqT (SqT.of h8)) (.cons (XS.Dp.mkCon (o := false) (l := [E1, A1]) ((e7.trans (e8.trans e9)).seqT (SqT.of h6)) rfl ((e6.trans (e7.trans (e8.trans e9))).seqT (SqT.of h5)) (.cons (Dp.same ek _ _ d4) (.cons (Dp.same ek _ _ d3') .nil))) (.cons (XS.Dp.mkNeg ((e8.trans e9).seqT (SqT.of h7)) (Dp.same ek _ _ d4)) .nil)))⟩
    · walk_at "all"
      refine ⟨XS.sz (by simp), fun t5 ht5 => ?_⟩
      obtain ⟨e5, h5⟩ := XS.newly (o := HO.tup _) ht5
      generalize hGH5 : upd _ t5 _ = H5 at e5 h5 ⊢
      walk_at "go"
      refine ⟨XS.sz (by simp), fun t6 ht6 => ?_⟩
      obtain ⟨e6, h6⟩ := XS.newly (o := HO.tup _) ht6
      generalize hGH6 : upd _ t6 _ = H6 at e6 h6 ⊢
      walk_at "go"
      refine ⟨XS.sz (by simp), fun t7 ht7 => ?_⟩
      obtain ⟨e7, h7⟩ := XS.newly (o := HO.tup _) ht7
      generalize hGH7 : upd _ t7 _ = H7 at e7 h7 ⊢
      walk_at "go"
      refine ⟨XS.sz (by simp), fun t8 ht8 => ?_⟩
      obtain ⟨e8, h8⟩ := XS.newly (o := HO.tup _) ht8
      generalize hGH8 : upd _ t8 _ = H8 at e8 h8 ⊢
      walk_at "go"
      walk_at "all"
      have ek := (e5.trans (e6.trans (e7.trans e8)))
      exact ⟨_, _, _, _, t8, rfl, e3.trans (e4.trans ek), (XS.Dp.mkCon (o := false) (l := [E1, .con false [], A1]) (SqT.of h8) rfl (e8.seqT (SqT.of h7)) (.cons (Dp.same ek _ _ d4) (.cons (XS.Dp.mkCon (o := false) (l := []) ((e7.trans e8).seqT (SqT.of h6)) rfl ((e6.trans (e7.trans e8)).seqT (SqT.of h5)) .nil) (.cons (Dp.same ek _ _ d3') .nil))))⟩
    · walk_at "all"
      refine ⟨XS.sz (by simp), fun t5 ht5 => ?_⟩
      obtain ⟨e5, h5⟩ := XS.newly (o := HO.tup _) ht5
      generalize hGH5 : upd _ t5 _ = H5 at e5 h5 ⊢
      walk_at "go"
      refine ⟨XS.sz (by simp), fun t6 ht6 => ?_⟩
      obtain ⟨e6, h6⟩ := XS.newly (o := HO.tup _) ht6
      generalize hGH6 : upd _ t6 _ = H6 at e6 h6 ⊢
      walk_at "go"
      refine ⟨XS.sz (by simp), fun t7 ht7 => ?_⟩
      obtain ⟨e7, h7⟩ := XS.newly (o := HO.tup _) ht7
      generalize hGH7 : upd _ t7 _ = H7 at e7 h7 ⊢
      walk_at "go"
      refine ⟨XS.sz (by simp), fun t8 ht8 => ?_⟩
      obtain ⟨e8, h8⟩ := XS.newly (o := HO.tup _) ht8
      generalize hGH8 : upd _ t8 _ = H8 at e8 h8 ⊢
      walk_at "go"
      refine ⟨XS.sz (by simp), fun t9 ht9 => ?_⟩
      obtain ⟨e9, h9⟩ := XS.newly (o := HO.tup _) ht9
      generalize hGH9 : upd _ t9 _ = H9 at e9 h9 ⊢
      walk_at "go"
      walk_at "all"
      have ek := (e5.trans (e6.trans (e7.trans (e8.trans e9))))
      exact ⟨_, _, _, _, t9, rfl, e3.trans (e4.trans ek), (XS.Dp.mkCon (o := true) (l := [.neg (.neg A1), .neg E1]) (SqT.of h9) rfl (e9.seqT (SqT.of h8)) (.cons (XS.Dp.mkNeg ((e7.trans (e8.trans e9)).seqT (SqT.of h6)) (XS.Dp.mkNeg ((e6.trans (e7.trans (e8.trans e9))).seqT (SqT.of h5)) (Dp.same ek _ _ d3'))) (.cons (XS.Dp.mkNeg ((e8.trans e9).seqT (SqT.of h7)) (Dp.same ek _ _ d4)) .nil)))⟩
    · walk_at "all"
      refine ⟨XS.sz (by simp), fun t5 ht5 => ?_⟩
      obtain ⟨e5, h5⟩ := XS.newly (o := HO.tup _) ht5
      generalize hGH5 : upd _ t5 _ = H5 at e5 h5 ⊢
      walk_at "go"
      refine ⟨XS.sz (by simp), fun t6 ht6 => ?_⟩
      obtain ⟨e6, h6⟩ := XS.newly (o := HO.tup _) ht6
      generalize hGH6 : upd _ t6 _ = H6 at e6 h6 ⊢
      walk_at "go"
      refine ⟨XS.sz (by simp), fun t7 ht7 => ?_⟩
      obtain ⟨e7, h7⟩ := XS.newly (o := HO.tup _) ht7
      generalize hGH7 : upd _ t7 _ = H7 at e7 h7 ⊢
      walk_at "go"
      refine ⟨XS.sz (by simp), fun t8 ht8 => ?_⟩
      obtain ⟨e8, h8⟩ := XS.newly (o := HO.tup _) ht8
      generalize hGH8 : upd _ t8 _ = H8 at e8 h8 ⊢
      walk_at "go"
      refine ⟨XS.sz (by simp), fun t9 ht9 => ?_⟩
      obtain ⟨e9, h9⟩ := XS.newly (o := HO.tup _) ht9
      generalize hGH9 : upd _ t9 _ = H9 at e9 h9 ⊢
      walk_at "go"
      refine ⟨XS.sz (by simp), fun t10 ht10 => ?_⟩
      obtain ⟨e10, h10⟩ := XS.newly (o := HO.tup _) ht10
      generalize hGH10 : upd _ t10 _ = H10 at e10 h10 ⊢
      walk_at "go"
      refine ⟨XS.sz (by simp), fun t11 ht11 => ?_⟩
      obtain ⟨e11, h11⟩ := XS.newly (o := HO.tup _) ht11
      generalize hGH11 : upd _ t11 _ = H11 at e11 h11 ⊢
      walk_at "go"
      refine ⟨XS.sz (by simp), fun t12 ht12 => ?_⟩
      obtain ⟨e12, h12⟩ := XS.newly (o := HO.tup _) ht12
      generalize hGH12 : upd _ t12 _ = H12 at e12 h12 ⊢
      walk_at "go"
      walk_at "all"
      have ek := (e5.trans (e6.trans (e7.trans (e8.trans (e9.trans (e10.trans (e11.trans e12)))))))
      exact ⟨_, _, _, _, t12, rfl, e3.trans (e4.trans ek), (XS.Dp.mkCon (o := true) (l := [.con false [A1], .con false [.con true [E1]]]) (SqT.of h12) rfl (e12.seqT (SqT.of h11)) (.cons (XS.Dp.mkCon (o := false) (l := [A1]) ((e7.trans (e8.trans (e9.trans (e10.trans (e11.trans e12))))).seqT (SqT.of h6)) rfl ((e6.trans (e7.trans (e8.trans (e9.trans (e10.trans (e11.trans e12)))))).seqT (SqT.of h5)) (.cons (Dp.same ek _ _ d3') .nil)) (.cons (XS.Dp.mkCon (o := false) (l := [.con true [E1]]) ((e11.trans e12).seqT (SqT.of h10)) rfl ((e10.trans (e11.trans e12)).seqT (SqT.of h9)) (.cons (XS.Dp.mkCon (o := true) (l := [E1]) ((e9.trans (e10.trans (e11.trans e12))).seqT (SqT.of h8)) rfl ((e8.trans (e9.trans (e10.trans (e11.trans e12)))).seqT (SqT.of h7)) (.cons (Dp.same ek _ _ d4) .nil)) .nil)) .nil)))⟩
    · walk_at "all"
      refine ⟨XS.sz (by simp), fun l1 hl1 => ?_⟩
      obtain ⟨e5, h5⟩ := XS.newly (o := HO.lst _) hl1
      generalize hGH5 : upd _ l1 _ = H5 at e5 h5 ⊢
      walk_at "go"
      have hb0 := Int.emod_nonneg (c / 9) (by decide : (2 : Int) ≠ 0)
      have hb1 := Int.emod_lt_of_pos (c / 9) (by decide : (0 : Int) < 2)
      have hd0 := Int.emod_nonneg (c / 18) (by decide : (18 : Int) ≠ 0)
      have hd1 := Int.emod_lt_of_pos (c / 18) (by decide : (0 : Int) < 18)
      obtain ⟨wd', hwa, hwe⟩ : ∃ wd' : Str, atI [V.str "and", V.str "or"] (c / 9 % 2) = some (.str wd') ∧ wd' = conW (decide (c / 9 % 2 = 0)) := by
        rcases (by omega : c / 9 % 2 = 0 ∨ c / 9 % 2 = 1) with e | e <;> rw [e] <;> exact ⟨_, rfl, rfl⟩
      refine XS.x_ixL (SqL.of h5) hwa ?_
      walk_at "go"
      refine ⟨XS.sz (by simp), fun t6 ht6 => ?_⟩
      obtain ⟨e6, h6⟩ := XS.newly (o := HO.tup _) ht6
      generalize hGH6 : upd _ t6 _ = H6 at e6 h6 ⊢
      walk_at "go"
      refine ⟨XS.sz (by simp), fun t7 ht7 => ?_⟩
      obtain ⟨e7, h7⟩ := XS.newly (o := HO.tup _) ht7
      generalize hGH7 : upd _ t7 _ = H7 at e7 h7 ⊢
      walk_at "go"
      refine x_repU (SqT.of h7) (by simp) (by omega) (by omega) (by simp) fun t8 H8 e8 h8 => ?_
      rw [rep_one] at h8
      walk_at "go"
      refine x_catA (SqT.of (e8 _ _ (e7 _ _ h6))) h8 (by simp) (by simp; omega) (by simp; omega) fun t9 H9 e9 h9 => ?_
      walk_at "go"
      refine ⟨XS.sz (by simp), fun t10 ht10 => ?_⟩
      obtain ⟨e10, h10⟩ := XS.newly (o := HO.tup _) ht10
      generalize hGH10 : upd _ t10 _ = H10 at e10 h10 ⊢
      walk_at "go"
      walk_at "all"
      have ek := e5.trans (e6.trans (e7.trans (e8.trans (e9.trans e10))))
      have dE := Dp.same ek _ _ d4
      have dl : DpAll K H10 ([.ref t4, .ref t4, .ref t] ++ List.replicate (1 + c / 18 % 18).toNat (.ref t4)) (([E1, E1, A1] ++ List.replicate (1 + c / 18 % 18).toNat E1).map toD) := by
        rw [List.map_append, List.map_replicate]
        exact DpAll.app (.cons dE (.cons dE (.one (Dp.same ek _ _ d3')))) (XS.DpAll.rep dE _)
      exact ⟨_, _, _, _, t10, rfl, e3.trans (e4.trans ek), XS.Dp.mkCon (SqT.of h10) hwe (SqT.of (e10 _ _ h9)) dl⟩
  · rintro σ H' ⟨y8, y9, y10, y11, t, rfl, e3, d3⟩
    walk_at "go"
    exact q _ _ (e1.trans (e2.trans e3)) d3

abbrev s__law_free : Stmt := topS 123
abbrev N__law_free : List Str := ["_law_statement", "_law_bound", "_law_kind", "_law_names", "_law_part", "_law_pair", "_law_name"]
abbrev P__law_free : List Str := ["_law_statement", "_law_bound"]
theorem sc__law_free : FnScope N__law_free P__law_free (defScope s__law_free) := ⟨rfl, rfl, rfl, by decide +kernel, rfl, by decide +kernel, by decide +kernel⟩
theorem lfree_step {n : Nat} {nm : List Str} (h32 : nm.length ≤ 32) (F : FunAt K mg "_law_free" s__law_free P__law_free) (Z : Bl mg) (D__law_free : DefAt P w K mg base CX0 (n + 1) "_law_free" P__law_free (sp_lfree n K nm)) :
    DefAt P w K mg base CX0 (n + 2) "_law_free" P__law_free (sp_lfree (n + 1) K nm) := by
  refine F.ok sc__law_free (fun vs H Q E h => ?_) (fun f cdv A outer s H vs Q E hr h => ?_)
  · obtain ⟨_, _, _, _, rfl, _⟩ := h
    rfl
  obtain ⟨v, b, a, bs, rfl, h1, hb, hbl, ev, hn, q⟩ := h
  refine ⟨_, (pss_cons (ps_set (i := 2) sc__law_free.nd rfl (Or.inl rfl) (pe_ix (ix_tupK K) (pv 0) pe_int (fun _ _ => rfl)))
        (pss_cons (ps_if (pt_cmpR op_eq (pv 2) pe_str (nomark _))
          (pss_one (ps_ret (pe_callD D__law_free (hr.mono (by first | exact Nat.le_refl _ | omega | decide)) rfl pass0 (pa_cons (pe_ix (ix_tupK K) (pv 0) pe_int (fun _ _ => rfl)) (pa_cons (pv 1) pa_nil))))) pss_nil)
        (pss_cons (ps_if (PW.pt (pw_or (pt_cmpR op_eq (pv 2) pe_str (nomark _)) (pw_or1 (pt_cmpR op_eq (pv 2) pe_str (nomark _)))))
          (pss_one (ps_ret (pe_callD D__law_free (hr.mono (by first | exact Nat.le_refl _ | omega | decide)) rfl pass0 (pa_cons (pe_ix (ix_tupK K) (pv 0) pe_int (fun _ _ => rfl)) (pa_cons (pe_op op_cat (pv 1) (pe_lst (pa_cons (pe_ix (ix_tupK K) (pv 0) pe_int (fun _ _ => rfl)) pa_nil))) pa_nil))))) pss_nil)
        (pss_cons (ps_if (PW.pt (pw_or (pt_cmpR op_eq (pv 2) pe_str (nomark _)) (pw_or1 (pt_cmpR op_eq (pv 2) pe_str (nomark _)))))
          (pss_cons (ps_set (i := 3) sc__law_free.nd rfl (Or.inr rfl) (pe_lst pa_nil))
        (pss_cons (ps_for PassesOwn.never rfl (pi_tupK K (pe_ix (ix_tupK K) (pv 0) pe_int (fun _ _ => rfl))) (pg_name (i := 4) sc__law_free.nd rfl (Or.inl rfl))
          (pss_one (ps_set (i := 3) sc__law_free.nd rfl (Or.inr rfl) (pe_op op_cat (pv 3) (pe_lc (own := [("_law_name", 6)]) (by rfl) sc__law_free.nd (pi_listK K (pe_callD D__law_free (hr.mono (by first | exact Nat.le_refl _ | omega | decide)) rfl pass0 (pa_cons (pv 4) (pa_cons (pv 1) pa_nil)))) (blkOk_by (own := [("_law_name", 6)]) (N := N__law_free) (sc := defScope s__law_free) (by decide +kernel)) (fun _ _ _ _ _ => (pg_name (i := 6) sc__law_free.nd rfl (Or.inl rfl))) (fun _ _ _ _ _ => (pts_one (pt_cmpR (op_notInK K) (pv 6) (pv 3) (by rfl)))) (fun _ _ _ _ _ => (pv 6)))))))
        (pss_one (ps_ret (pv 3))))) pss_nil)
        (pss_one (ps_ret (pe_lc (own := [("_law_pair", 5)]) (by rfl) sc__law_free.nd (pi_tupK K (pe_ix (ix_tupK K) (pe_ix (ix_tupK K) (pv 0) (pe_un un_neg pe_int) (fun _ _ => rfl)) pe_int (fun _ _ => rfl))) (blkOk_by (own := [("_law_pair", 5)]) (N := N__law_free) (sc := defScope s__law_free) (by decide +kernel)) (fun _ _ _ _ _ => (pg_name (i := 5) sc__law_free.nd rfl (Or.inl rfl))) (fun _ _ _ _ _ => (pts_one (pt_cmpR (op_notInK K) (pe_ix (ix_tupK K) (pv 5) pe_int (fun _ _ => rfl)) (pv 1) (by rfl)))) (fun _ _ _ _ _ => (pe_ix (ix_tupK K) (pv 5) pe_int (fun _ _ => rfl)))))))))), ?_⟩
  obtain ⟨p, us, rfl, hp, ds, eds, hds⟩ := Dp.stm h1
  walk_at "go"
  refine XS.x_ixT hp (XS.atI_get (i := 0) rfl) ?_
  walk_at "go"
  rw [is_not]
  by_cases e : isEnd a = true
  · refine XS.x_no (by cases a <;> first | rfl | cases e) ?_
    walk_at "go"
    rw [isSome_eq]
    refine XS.x_no (by cases a <;> first | rfl | cases e) ?_
    walk_at "go"
    rw [isAll_eq]
    refine XS.x_no (by cases a <;> first | rfl | cases e) ?_
    walk_at "go"
    rw [isAnd_eq]
    refine XS.x_no (by cases a <;> first | rfl | cases e) ?_
    walk_at "go"
    rw [isOr_eq]
    refine XS.x_no (by cases a <;> first | rfl | cases e) ?_
    walk_at "go"
    obtain ⟨p', us', u, ep, hp', hlast, hsum⟩ := end_sum e h1
    cases ep
    refine XS.x_ixT hp' hlast ?_
    walk_at "go"
    obtain ⟨ra, rb, rs, rfl, a1, a2, a3⟩ := hsum.sum
    refine XS.x_ixT a1 (XS.atI_get (i := 1) rfl) ?_
    have l1 := a3.len
    rw [List.length_map] at l1
    have hsn : (∀ x ∈ (sumOf a).2.map (·.1), x ∈ nm) ∧ ((sumOf a).2.map (·.1)).Nodup := by
      cases ev with
      | above h | nought h | goes h _ => exact h
      | neg _ | con _ _ | bnd _ => cases e
    have lz := nd_len hsn.2 hsn.1
    rw [List.length_map] at lz
    refine XS.x_lcT (K := K) (sumOf a).2 rs (fun p => decide (p.1 ∉ bs)) (fun p => .str p.1) a2 l1 (by omega) (fun _ => .str _) (fun i p u hi hu H1 Yes No e1 yes no => ?_) (fun l H1 acc hl0 e1 hacc had => ?_)
    · obtain ⟨c, rfl, hc⟩ := (pair_at a3 hi hu).pair
      walk_at "go"
      refine ⟨rfl, ?_⟩
      walk_at "go"
      refine XS.x_ixT (e1.seqT hc) (XS.atI_get (i := 0) rfl) ?_
      walk_at "go"
      refine XS.x_ninL (SqL.of (e1 _ _ hb)) (inV_str _ _) (flat_strs _) ?_
      walk_at "go"
      refine XS.x_dn (fun c => ?_) (fun c => ?_)
      · walk_at "go"
        refine XS.x_ixT (e1.seqT hc) (XS.atI_get (i := 0) rfl) ?_
        exact yes _ _ (Same.refl _) (by simpa using c) (.str _)
      · exact no _ (Same.refl _) (by simpa using c)
    · walk_at "go"
      have e3 : ((sumOf a).2.filter fun p => decide (p.1 ∉ bs)).map (fun p => PyData.str p.1) = (((sumOf a).2.filter fun p => decide (p.1 ∉ bs)).map (·.1)).map PyData.str := by rw [List.map_map]; rfl
      rw [e3] at had
      rw [had.strs] at hacc
      refine q l H1 _ e1 hl0 hacc (List.Nodup.sublist ((List.filter_sublist).map _) hsn.2) fun x => ?_
      rw [fr_end e]
      simp only [List.mem_map, List.mem_filter, decide_eq_true_eq]
      exact ⟨fun ⟨z, ⟨h1, h2⟩, h3⟩ => by subst h3; exact ⟨h2, z, h1, rfl⟩, fun ⟨h1, z, h2, h3⟩ => by subst h3; exact ⟨z, ⟨h2, h1⟩, rfl⟩⟩
  · cases a with
    | above | nought | goes => exact absurd rfl e
    | neg c =>
      refine XS.x_yes rfl ?_
      walk_at "go"
      cases eds
      cases hds with
      | cons g1 g2 =>
      refine XS.x_ixT hp (XS.atI_get (i := 1) rfl) ?_
      walk_at "go"
      refine ⟨_, b, c, bs, rfl, g1, hb, by have : dep (Stm.neg c) = dep c + 1 := rfl; omega, ev.parts (by simp [parts]), Nat.le_of_succ_le_succ hn, fun l H1 zs e1 hl h5 nd mem => ?_⟩
      walk_at "go"
      refine q l H1 zs e1 hl h5 nd fun x => ?_
      rw [mem]
      exact ⟨fun ⟨h, h2⟩ => ⟨h, .neg h2⟩, fun ⟨h, h2⟩ => ⟨h, by cases h2 with | neg h3 => exact h3⟩⟩
    | bnd o y c =>
      refine XS.x_no rfl ?_
      walk_at "go"
      rw [isSome_eq]
      cases eds
      cases hds with
      | cons g1 g2 =>
      cases g1
      cases g2 with
      | cons g3 g4 =>
      refine XS.x_2 (fun e2 => ?_) (fun e2 => ?_)
      case' refine_2 =>
        walk_at "go"
        rw [isAll_eq]
        refine XS.x_yes (by cases o with | true => rfl | false => cases e2) ?_
      all_goals
        walk_at "go"
        refine XS.x_ixT hp (XS.atI_get (i := 2) rfl) ?_
        walk_at "go"
        refine XS.x_ixT hp (XS.atI_get (i := 1) rfl) ?_
        walk_at "go"
        refine ⟨XS.sz (by simp), fun l1 hl1 => ?_⟩
        obtain ⟨e1, h5⟩ := XS.newly (o := HO.lst _) hl1
        generalize hGH1 : upd _ l1 _ = H1 at e1 h5 ⊢
        walk_at "go"
        have ed : dep (Stm.bnd o y c) = dep c + 1 := rfl
        refine ⟨b, l1, _, _, rfl, rfl, e1 _ _ hb, h5, XS.sz (by simp; omega), fun l2 hl2 => ?_⟩
        obtain ⟨e6, h6⟩ := XS.newly (o := HO.lst (bs.map V.str ++ [V.str y])) hl2
        generalize hG6 : upd _ l2 _ = H6 at e6 h6 ⊢
        walk_at "go"
        refine ⟨_, l2, c, bs ++ [y], rfl, Dp.same (e1.trans e6) _ _ g3, by rw [List.map_append]; exact h6, by rw [List.length_append]; show bs.length + 1 + dep c ≤ 1000; omega, ev.parts (by simp [parts]), Nat.le_of_succ_le_succ hn, fun l3 H7 zs e7 hl3 h7 nd mem => ?_⟩
        walk_at "go"
        refine q l3 H7 zs (e1.trans (e6.trans e7)) (none_of (e1.trans e6) hl3) h7 nd fun x => ?_
        rw [mem, List.mem_append, not_or]
        constructor
        · rintro ⟨⟨h1, h2⟩, h3⟩
          exact ⟨h1, .bnd (by simpa using h2) h3⟩
        · rintro ⟨h1, h2⟩
          cases h2 with
          | bnd h3 h4 => exact ⟨⟨h1, by simpa using h3⟩, h4⟩
    | con o l =>
      refine XS.x_no rfl ?_
      walk_at "go"
      rw [isSome_eq]
      refine XS.x_no rfl ?_
      walk_at "go"
      rw [isAll_eq]
      refine XS.x_no rfl ?_
      walk_at "go"
      rw [isAnd_eq]
      cases eds
      cases hds with
      | cons g1 g2 =>
      rw [toDs_map] at g1
      cases g1 with
      | tup hs ha =>
      have ll := ha.len
      rw [List.length_map] at ll
      have go : ∀ c ∈ l, dep c ≤ n ∧ bs.length + dep c ≤ 1000 := fun c hc => by
        have := dep_in hc
        have ed : dep (Stm.con o l) = deps l + 1 := rfl
        omega
      have evc : ∀ c ∈ l, Ev (fun s => (∀ x ∈ s.2.map (·.1), x ∈ nm) ∧ (s.2.map (·.1)).Nodup) c := fun c hc => ev.parts hc
      refine XS.x_2 (fun e2 => ?_) (fun e2 => ?_)
      case' refine_2 =>
        walk_at "go"
        rw [isOr_eq]
        refine XS.x_yes (by cases o with | true => cases e2 | false => rfl) ?_
      all_goals
        walk_at "go"
        refine ⟨XS.sz (by simp), fun l1 hl1 => ?_⟩
        obtain ⟨e1, h5⟩ := XS.newly (o := HO.lst _) hl1
        generalize hGH1 : upd _ l1 _ = H1 at e1 h5 ⊢
        walk_at "go"
        refine XS.x_ixT (e1.seqT hp) (XS.atI_get (i := 1) rfl) ?_
        refine XS.x_forT (e1.seqT hs) (fun i σ H' => ∃ (y4 : Option V) (r : Addr) (zs : List Str), σ = [some (.ref p), some (.ref b), some (.str (headW (Stm.con o l))), some (.ref r), y4, none, none] ∧ Same H H' ∧ H r = none ∧ H' r = some (.lst (zs.map V.str)) ∧ zs.Nodup ∧
          ∀ x, x ∈ zs ↔ x ∉ bs ∧ ∃ c ∈ l.take i, XS.Fr x c) ⟨none, l1, [], rfl, e1, hl1, h5, List.nodup_nil, fun x => by simp⟩ (fun i σ H' _ ⟨_, _, _, _, e2, _⟩ => e2.seqT hs) ?_ ?_
        · rintro i u σ H' hi ⟨y4, r, zs, rfl, e2, hr0, h2, nd2, mem2⟩
          have hlt : i < l.length := by rw [← ll]; exact (List.getElem?_eq_some_iff.mp hi).1
          have hc : l[i]? = some l[i] := List.getElem?_eq_getElem hlt
          generalize l[i] = c at hc
          have hmem := List.mem_of_getElem? hc
          obtain ⟨dd, hdd, du⟩ := (DpAll.same e2 _ _ ha).getV hi
          rw [List.getElem?_map, hc] at hdd
          cases hdd
          obtain ⟨gc1, gc2⟩ := go c hmem
          have inn : ∀ z ∈ zs, z ∈ nm := fun z hz => by
            obtain ⟨_, c', hc', f'⟩ := (mem2 z).mp hz
            exact fr_in ((evc c' (List.mem_of_mem_take hc')).mono fun _ h => h.1) f'
          have lz := nd_len nd2 inn
          walk_at "go"
          refine ⟨u, b, c, bs, rfl, du, e2 _ _ hb, gc2, evc c hmem, gc1, fun l3 H3 ws e3 hl3 h3 nd3 mem3 => ?_⟩
          have inw : ∀ z ∈ ws, z ∈ nm := fun z hz => fr_in ((evc c hmem).mono fun _ h => h.1) ((mem3 z).mp hz).2
          have lw := nd_len nd3 inw
          refine XS.x_lcL ws V.str (fun z => decide (z ∉ zs)) (fun z => .str z) (SqL.of h3) (by omega) (fun _ => .str _) (fun z hz H4 Yes No e4 yes no => ?_) (fun l4 H4 acc hl4 e4 hacc had => ?_)
          · walk_at "go"
            refine ⟨rfl, ?_⟩
            walk_at "go"
            refine XS.x_ninL (SqL.of (e4 _ _ (e3 _ _ h2))) (inV_str _ _) (flat_strs _) ?_
            walk_at "go"
            refine XS.x_dn (fun c => ?_) (fun c => ?_)
            · walk_at "go"
              exact yes _ _ (Same.refl _) (by simpa using c) (.str _)
            · exact no _ (Same.refl _) (by simpa using c)
          · rw [had.strs] at hacc
            have lf := List.length_filter_le (fun z => decide (z ∉ zs)) ws
            refine ⟨r, l4, _, _, rfl, rfl, e4 _ _ (e3 _ _ h2), hacc, XS.sz (by rw [List.length_map, List.length_map]; omega), fun l6 hl6 => ?_⟩
            obtain ⟨e6, h6⟩ := XS.newly (o := HO.lst (zs.map V.str ++ (ws.filter fun z => decide (z ∉ zs)).map V.str)) hl6
            generalize hG6 : upd _ l6 _ = H6 at e6 h6 ⊢
            walk_at "go"
            have e26 := e2.trans (e3.trans (e4.trans e6))
            refine ⟨_, l6, zs ++ ws.filter fun z => decide (z ∉ zs), rfl, e26, none_of (e2.trans (e3.trans e4)) hl6, by rw [List.map_append]; exact h6, ?_, fun x => ?_⟩
            · refine List.nodup_append.mpr ⟨nd2, nd3.sublist List.filter_sublist, fun x hx y hy => ?_⟩
              have := (List.mem_filter.mp hy).2
              intro q'
              subst q'
              simp at this
              exact this hx
            · rw [List.mem_append, List.mem_filter, mem3, XS.take_more hc]
              constructor
              · rintro (hx | ⟨⟨h1, h2⟩, _⟩)
                · obtain ⟨h1, z, hz, h2⟩ := (mem2 x).mp hx
                  exact ⟨h1, z, List.mem_append_left _ hz, h2⟩
                · exact ⟨h1, c, List.mem_append_right _ (List.mem_singleton.mpr rfl), h2⟩
              · rintro ⟨h1, z, hz, h2⟩
                rcases List.mem_append.mp hz with hz | hz
                · exact .inl ((mem2 x).mpr ⟨h1, z, hz, h2⟩)
                · rw [List.mem_singleton.mp hz] at h2
                  by_cases hx : x ∈ zs
                  · exact .inl hx
                  · exact .inr ⟨⟨h1, h2⟩, by simpa using hx⟩
        · rintro σ H' ⟨y4, r, zs, rfl, e2, hr0, h2, nd2, mem2⟩
          walk_at "go"
          rw [ll, List.take_length] at mem2
          refine q r H' zs e2 hr0 h2 nd2 fun x => ?_
          rw [mem2]
          exact ⟨fun ⟨h1, c, hc, h2⟩ => ⟨h1, .con hc h2⟩, fun ⟨h1, h2⟩ => by cases h2 with | con hc h3 => exact ⟨h1, _, hc, h3⟩⟩
theorem lfree_all {nm : List Str} (h32 : nm.length ≤ 32) (F : FunAt K mg "_law_free" s__law_free P__law_free) (Z : Bl mg) : ∀ n, DefAt P w K mg base CX0 (n + 1) "_law_free" P__law_free (sp_lfree n K nm)
  | 0 => F.never fun vs H Q E h => by
    obtain ⟨_, _, a, _, _, _, _, _, _, hn, _⟩ := h
    have := dep_pos a
    omega
  | n + 1 => lfree_step h32 F Z (lfree_all h32 F Z n)

abbrev s__law_bound_by : Stmt := topS 128
abbrev N__law_bound_by : List Str := ["_law_cell", "_law_statement", "_law_names", "_law_inner", "_law_way"]
abbrev P__law_bound_by : List Str := ["_law_cell", "_law_statement", "_law_names"]
theorem sc__law_bound_by : FnScope N__law_bound_by P__law_bound_by (defScope s__law_bound_by) := ⟨rfl, rfl, rfl, by decide +kernel, rfl, by decide +kernel, by decide +kernel⟩
theorem d__law_bound_by (F : FunAt K mg "_law_bound_by" s__law_bound_by P__law_bound_by) (Z : Bl mg) : DefAt P w K mg base CX0 1 "_law_bound_by" P__law_bound_by (sp_bound_by K) := by
  refine F.ok sc__law_bound_by (fun vs H Q E h => ?_) (fun f cdv A outer s H vs Q E hr h => ?_)
  · obtain ⟨_, _, _, _, _, rfl, _⟩ := h
    rfl
  obtain ⟨c, v, nl, A1, names, rfl, hA, hN, hL, q⟩ := h
  refine ⟨_, (pss_cons (ps_set (i := 3) sc__law_bound_by.nd rfl (Or.inl rfl) (pe_tup (pa_cons (pe_ix (ix_listK K) (pe_lst (pa_cons pe_str (pa_cons pe_str pa_nil))) (pe_op op_mod (pv 0) pe_int) (fun _ _ => rfl)) (pa_cons (pe_ix (ix_listK K) (pv 2) (pe_op op_mod (pe_op op_fdiv (pv 0) pe_int) pe_int) (fun _ _ => rfl)) (pa_cons (pv 1) pa_nil)))))
        (pss_cons (ps_set (i := 4) sc__law_bound_by.nd rfl (Or.inl rfl) (pe_op op_mod (pe_op op_fdiv (pv 0) pe_int) pe_int))
        (pss_cons (ps_if (pt_cmpR op_eq (pv 4) pe_int (nomark _))
          (pss_one (ps_ret (pv 3))) pss_nil)
        (pss_cons (ps_if (pt_cmpR op_eq (pv 4) pe_int (nomark _))
          (pss_one (ps_ret (pe_tup (pa_cons pe_str (pa_cons (pv 3) pa_nil))))) pss_nil)
        (pss_cons (ps_if (pt_cmpR op_eq (pv 4) pe_int (nomark _))
          (pss_one (ps_ret (pe_tup (pa_cons pe_str (pa_cons (pe_tup (pa_cons (pv 1) (pa_cons (pv 3) pa_nil))) pa_nil))))) pss_nil)
        (pss_one (ps_ret (pe_tup (pa_cons pe_str (pa_cons (pe_tup (pa_cons (pe_tup (pa_cons pe_str (pa_cons (pe_tup pa_nil) pa_nil))) (pa_cons (pe_tup (pa_cons pe_str (pa_cons (pe_tup (pa_cons pe_str (pa_cons (pe_tup (pa_cons (pv 3) (pa_cons (pv 1) pa_nil))) pa_nil))) pa_nil))) pa_nil))) pa_nil)))))))))), ?_⟩
  walk_at "go"
  refine ⟨XS.sz (by simp), fun l3 hl3 => ?_⟩
  obtain ⟨e3, h3⟩ := XS.newly (o := HO.lst _) hl3
  generalize hGH3 : upd _ l3 _ = H3 at e3 h3 ⊢
  walk_at "go"
  have hb0 := Int.emod_nonneg c (by decide : (2 : Int) ≠ 0)
  have hb1 := Int.emod_lt_of_pos c (by decide : (0 : Int) < 2)
  obtain ⟨w1, hwa, hwe⟩ : ∃ w1 : Str, atI [V.str "some", V.str "all"] (c % 2) = some (.str w1) ∧ w1 = bndW (decide (c % 2 = 1)) := by
    rcases (by omega : c % 2 = 0 ∨ c % 2 = 1) with e | e <;> rw [e] <;> exact ⟨_, rfl, rfl⟩
  refine XS.x_ixL (SqL.of h3) hwa ?_
  walk_at "go"
  have hn0 := Int.emod_nonneg (c / 2) (by decide : (4 : Int) ≠ 0)
  have hn1 := Int.emod_lt_of_pos (c / 2) (by decide : (0 : Int) < 4)
  obtain ⟨x, hx, hxe⟩ : ∃ x, atI (names.map V.str) (c / 2 % 4) = some (.str x) ∧ x = names.getD (c / 2 % 4).toNat "" := by
    generalize c / 2 % 4 = k at hn0 hn1
    obtain ⟨j, rfl⟩ := Int.eq_ofNat_of_zero_le hn0
    have hj : j < names.length := by omega
    refine ⟨names[j], atI_nat (by rw [List.getElem?_map, List.getElem?_eq_getElem hj]; rfl), ?_⟩
    show names[j] = names.getD ((j : Int)).toNat ""
    rw [Int.toNat_natCast, List.getD_eq_getElem?_getD, List.getElem?_eq_getElem hj]
    rfl
  refine XS.x_ixL (e3.seq hN) hx ?_
  walk_at "go"
  refine ⟨XS.sz (by simp), fun t4 ht4 => ?_⟩
  obtain ⟨e4, h4⟩ := XS.newly (o := HO.tup _) ht4
  generalize hGH4 : upd _ t4 _ = H4 at e4 h4 ⊢
  walk_at "go"
  have e34 := e3.trans e4
  have d4 := Dp.same e34 _ _ hA
  have dI : Dp K H4 (.ref t4) (toD (Stm.bnd (decide (c % 2 = 1)) (names.getD (c / 2 % 4).toNat "") A1)) := by
    rw [← hxe]
    exact XS.Dp.mkBnd (SqT.of h4) hwe d4
  unfold boundBy at q
  dsimp only at q
  generalize Stm.bnd (decide (c % 2 = 1)) (names.getD (c / 2 % 4).toNat "") A1 = E1 at q dI
  refine XS.x_d (fun e => ?_) (fun e => ?_)
  · rw [if_pos e] at q
    walk_at "go"
    exact q _ _ e34 dI
  rw [if_neg e] at q
  walk_at "go"
  refine XS.x_d (fun e => ?_) (fun e => ?_)
  · rw [if_pos e] at q
    walk_at "go"
    refine ⟨XS.sz (by simp), fun t5 ht5 => ?_⟩
    obtain ⟨e5, h5⟩ := XS.newly (o := HO.tup _) ht5
    generalize hGH5 : upd _ t5 _ = H5 at e5 h5 ⊢
    walk_at "go"
    walk_at "go"
    have ek := e5
    exact q t5 _ (e34.trans ek) (XS.Dp.mkNeg (SqT.of h5) (Dp.same ek _ _ dI))
  rw [if_neg e] at q
  walk_at "go"
  refine XS.x_d (fun e => ?_) (fun e => ?_)
  · rw [if_pos e] at q
    walk_at "go"
    refine ⟨XS.sz (by simp), fun t5 ht5 => ?_⟩
    obtain ⟨e5, h5⟩ := XS.newly (o := HO.tup _) ht5
    generalize hGH5 : upd _ t5 _ = H5 at e5 h5 ⊢
    walk_at "go"
    refine ⟨XS.sz (by simp), fun t6 ht6 => ?_⟩
    obtain ⟨e6, h6⟩ := XS.newly (o := HO.tup _) ht6
    generalize hGH6 : upd _ t6 _ = H6 at e6 h6 ⊢
    walk_at "go"
    walk_at "go"
    have ek := (e5.trans e6)
    exact q t6 _ (e34.trans ek) (XS.Dp.mkCon (o := true) (l := [A1, E1]) (SqT.of h6) rfl (e6.seqT (SqT.of h5)) (.cons (Dp.same ek _ _ d4) (.cons (Dp.same ek _ _ dI) .nil)))
  · rw [if_neg e] at q
    walk_at "go"
    refine ⟨XS.sz (by simp), fun t5 ht5 => ?_⟩
    obtain ⟨e5, h5⟩ := XS.newly (o := HO.tup _) ht5
    generalize hGH5 : upd _ t5 _ = H5 at e5 h5 ⊢
    walk_at "go"
    refine ⟨XS.sz (by simp), fun t6 ht6 => ?_⟩
    obtain ⟨e6, h6⟩ := XS.newly (o := HO.tup _) ht6
    generalize hGH6 : upd _ t6 _ = H6 at e6 h6 ⊢
    walk_at "go"
    refine ⟨XS.sz (by simp), fun t7 ht7 => ?_⟩
    obtain ⟨e7, h7⟩ := XS.newly (o := HO.tup _) ht7
    generalize hGH7 : upd _ t7 _ = H7 at e7 h7 ⊢
    walk_at "go"
    refine ⟨XS.sz (by simp), fun t8 ht8 => ?_⟩
    obtain ⟨e8, h8⟩ := XS.newly (o := HO.tup _) ht8
    generalize hGH8 : upd _ t8 _ = H8 at e8 h8 ⊢
    walk_at "go"
    refine ⟨XS.sz (by simp), fun t9 ht9 => ?_⟩
    obtain ⟨e9, h9⟩ := XS.newly (o := HO.tup _) ht9
    generalize hGH9 : upd _ t9 _ = H9 at e9 h9 ⊢
    walk_at "go"
    refine ⟨XS.sz (by simp), fun t10 ht10 => ?_⟩
    obtain ⟨e10, h10⟩ := XS.newly (o := HO.tup _) ht10
    generalize hGH10 : upd _ t10 _ = H10 at e10 h10 ⊢
    walk_at "go"
    refine ⟨XS.sz (by simp), fun t11 ht11 => ?_⟩
    obtain ⟨e11, h11⟩ := XS.newly (o := HO.tup _) ht11
    generalize hGH11 : upd _ t11 _ = H11 at e11 h11 ⊢
    walk_at "go"
    walk_at "go"
    have ek := (e5.trans (e6.trans (e7.trans (e8.trans (e9.trans (e10.trans e11))))))
    exact q t11 _ (e34.trans ek) (XS.Dp.mkCon (o := false) (l := [.con true [], .neg (.con false [E1, A1])]) (SqT.of h11) rfl (e11.seqT (SqT.of h10)) (.cons (XS.Dp.mkCon (o := true) (l := []) ((e7.trans (e8.trans (e9.trans (e10.trans e11)))).seqT (SqT.of h6)) rfl ((e6.trans (e7.trans (e8.trans (e9.trans (e10.trans e11))))).seqT (SqT.of h5)) .nil) (.cons (XS.Dp.mkNeg ((e10.trans e11).seqT (SqT.of h9)) (XS.Dp.mkCon (o := false) (l := [E1, A1]) ((e9.trans (e10.trans e11)).seqT (SqT.of h8)) rfl ((e8.trans (e9.trans (e10.trans e11))).seqT (SqT.of h7)) (.cons (Dp.same ek _ _ dI) (.cons (Dp.same ek _ _ d4) .nil)))) .nil)))

abbrev s__law_edge_by : Stmt := topS 129
abbrev N__law_edge_by : List Str := ["_law_cell", "_law_names", "_law_values", "_law_one", "_law_end"]
abbrev P__law_edge_by : List Str := ["_law_cell", "_law_names", "_law_values"]
theorem sc__law_edge_by : FnScope N__law_edge_by P__law_edge_by (defScope s__law_edge_by) := ⟨rfl, rfl, rfl, by decide +kernel, rfl, by decide +kernel, by decide +kernel⟩
theorem d__law_edge_by (F : FunAt K mg "_law_edge_by" s__law_edge_by P__law_edge_by) (Z : Bl mg) (D__law_sum_by : DefAt P w K mg base CX0 1 "_law_sum_by" P__law_sum_by (sp_sum_by K)) (D__law_value : DefAt P w K mg base CX0 1 "_law_value" P__law_value (sp_lvalue K)) :
    DefAt P w K mg base CX0 2 "_law_edge_by" P__law_edge_by (sp_edge_by K) := by
  refine F.ok sc__law_edge_by (fun vs H Q E h => ?_) (fun f cdv A outer s H vs Q E hr h => ?_)
  · obtain ⟨_, _, _, _, _, rfl, _⟩ := h
    rfl
  obtain ⟨c, nl, d, names, m, rfl, h1, nd, hl, hd, sm, hin, q⟩ := h
  refine ⟨_, (pss_cons (ps_set (i := 3) sc__law_edge_by.nd rfl (Or.inl rfl) (pe_callD D__law_sum_by (hr.mono (by first | exact Nat.le_refl _ | omega | decide)) rfl pass0 (pa_cons (pe_op op_fdiv (pv 0) pe_int) (pa_cons (pv 1) (pa_cons pe_int pa_nil)))))
        (pss_cons (ps_set (i := 3) sc__law_edge_by.nd rfl (Or.inl rfl) (pe_tup (pa_cons (pe_op op_sub (pe_op op_add (pe_op op_sub (pe_ix (ix_tupK K) (pv 3) pe_int (fun _ _ => rfl)) (pe_callD D__law_value (hr.mono (by first | exact Nat.le_refl _ | omega | decide)) rfl pass0 (pa_cons (pv 3) (pa_cons (pv 2) pa_nil)))) (pe_op op_mod (pv 0) pe_int)) pe_int) (pa_cons (pe_ix (ix_tupK K) (pv 3) pe_int (fun _ _ => rfl)) pa_nil))))
        (pss_cons (ps_set (i := 4) sc__law_edge_by.nd rfl (Or.inl rfl) (pe_ix (ix_listK K) (pe_lst (pa_cons (pe_tup (pa_cons pe_str (pa_cons (pv 3) pa_nil))) (pa_cons (pe_tup (pa_cons pe_str (pa_cons (pv 3) pa_nil))) (pa_cons (pe_tup (pa_cons pe_str (pa_cons (pe_op op_add pe_int (pe_op op_mod (pe_op op_fdiv (pv 0) pe_int) pe_int)) (pa_cons (pv 3) pa_nil)))) pa_nil)))) (pe_op op_mod (pe_op op_fdiv (pv 0) pe_int) pe_int) (fun _ _ => rfl)))
        (pss_cons (ps_if (pt_cmpR op_eq (pe_op op_mod (pe_op op_fdiv (pv 0) pe_int) pe_int) pe_int (nomark _))
          (pss_one (ps_ret (pe_tup (pa_cons pe_str (pa_cons (pv 4) pa_nil))))) pss_nil)
        (pss_one (ps_ret (pv 4))))))), ?_⟩
  walk_at "go"
  refine ⟨c / 12, 3, nl, names, rfl, h1, nd, hl, by decide, by decide, fun t1 H1 e1 d1 => ?_⟩
  walk_at "go"
  unfold edgeBy edgeEnd edgeOne at q
  have o1 : Norm (sumBy (c / 12) names 3).2 := sumBy_norm (by decide)
  have s1 : SmlS (sumBy (c / 12) names 3) := sumBy_sml (by decide) (by decide)
  have i1 : ∀ p ∈ (sumBy (c / 12) names 3).2, p.1 ∈ m.map (·.1) := fun p hp => hin _ (sumBy_mem (by decide) hp)
  generalize sumBy (c / 12) names 3 = one at q d1 o1 s1 i1
  obtain ⟨ra, rb, rs, er, a1, a2, a3⟩ := d1.sum
  cases er
  refine XS.x_ixT a1 (XS.atI_get (i := 0) rfl) ?_
  walk_at "go"
  refine ⟨_, d, one, m, rfl, d1, e1 _ _ hd, s1, sm, i1, ?_⟩
  walk_at "go"
  refine XS.x_ixT a1 (XS.atI_get (i := 1) rfl) ?_
  walk_at "go"
  refine ⟨XS.sz (by simp), fun t2 ht2 => ?_⟩
  obtain ⟨e2, h2⟩ := XS.newly (o := HO.tup _) ht2
  generalize hGH2 : upd _ t2 _ = H2 at e2 h2 ⊢
  walk_at "go"
  have d2 : Dp K H2 (.ref t2) (sumD (one.1 - valS (look m) one + c % 3 - 1, one.2)) := Dp.mkSum (SqT.of h2) (e2.seqT a2) (DpAll.same e2 _ _ a3)
  generalize (one.1 - valS (look m) one + c % 3 - 1, one.2) = two at q d2
  walk_at "go"
  refine ⟨XS.sz (by simp), fun t3 ht3 => ?_⟩
  obtain ⟨e3, h3⟩ := XS.newly (o := HO.tup _) ht3
  generalize hGH3 : upd _ t3 _ = H3 at e3 h3 ⊢
  walk_at "go"
  refine ⟨XS.sz (by simp), fun t4 ht4 => ?_⟩
  obtain ⟨e4, h4⟩ := XS.newly (o := HO.tup _) ht4
  generalize hGH4 : upd _ t4 _ = H4 at e4 h4 ⊢
  walk_at "go"
  refine ⟨XS.sz (by simp), fun t5 ht5 => ?_⟩
  obtain ⟨e5, h5⟩ := XS.newly (o := HO.tup _) ht5
  generalize hGH5 : upd _ t5 _ = H5 at e5 h5 ⊢
  walk_at "go"
  refine ⟨XS.sz (by simp), fun t6 ht6 => ?_⟩
  obtain ⟨e6, h6⟩ := XS.newly (o := HO.lst _) ht6
  generalize hGH6 : upd _ t6 _ = H6 at e6 h6 ⊢
  walk_at "go"
  have hb0 := Int.emod_nonneg (c / 3) (by decide : (3 : Int) ≠ 0)
  have hb1 := Int.emod_lt_of_pos (c / 3) (by decide : (0 : Int) < 3)
  have ek := e3.trans (e4.trans (e5.trans e6))
  have dE := Dp.same ek _ _ d2
  obtain ⟨tE, hE, dE2⟩ : ∃ tE, atI [V.ref t3, V.ref t4, V.ref t5] (c / 3 % 3) = some (.ref tE) ∧ Dp K H6 (.ref tE) (toD (if c / 3 % 3 = 0 then Stm.above two else if c / 3 % 3 = 1 then Stm.nought two else Stm.goes (1 + c / 9 % 40) two)) := by
    rcases (by omega : c / 3 % 3 = 0 ∨ c / 3 % 3 = 1 ∨ c / 3 % 3 = 2) with e | e | e <;> rw [e]
    · exact ⟨_, rfl, XS.Dp.mkAbove (((e4.trans (e5.trans e6))).seqT (SqT.of h3)) dE⟩
    · exact ⟨_, rfl, XS.Dp.mkNought ((e5.trans e6).seqT (SqT.of h4)) dE⟩
    · exact ⟨_, rfl, XS.Dp.mkGoes (e6.seqT (SqT.of h5)) dE⟩
  refine XS.x_ixL (SqL.of h6) hE ?_
  walk_at "go"
  have e16 := e1.trans (e2.trans ek)
  generalize (if c / 3 % 3 = 0 then Stm.above two else if c / 3 % 3 = 1 then Stm.nought two else Stm.goes (1 + c / 9 % 40) two) = E1 at q dE2
  refine XS.x_d (fun e => ?_) (fun e => ?_)
  · rw [if_pos e] at q
    walk_at "go"
    refine ⟨XS.sz (by simp), fun t7 ht7 => ?_⟩
    obtain ⟨e7, h7⟩ := XS.newly (o := HO.tup _) ht7
    generalize hGH7 : upd _ t7 _ = H7 at e7 h7 ⊢
    walk_at "go"
    exact q _ _ (e16.trans e7) (XS.Dp.mkNeg (SqT.of h7) (Dp.same e7 _ _ dE2))
  · rw [if_neg e] at q
    walk_at "go"
    exact q _ _ e16 dE2

abbrev s_inverse : Stmt := topS 2
abbrev N_inverse : List Str := ["number", "modulus", "rest", "other", "before", "factor", "many"]
abbrev P_inverse : List Str := ["number", "modulus"]
theorem sc_inverse : FnScope N_inverse P_inverse (defScope s_inverse) := ⟨rfl, rfl, rfl, by decide +kernel, rfl, by decide +kernel, by decide +kernel⟩
theorem d_inverse (F : FunAt K mg "inverse" s_inverse P_inverse) (Z : Bl mg) : DefAt P w K mg base CX0 1 "inverse" P_inverse sp_inverse := by
  refine F.ok sc_inverse (fun vs H Q E h => ?_) (fun f cdv A outer s H vs Q E hr h => ?_)
  · obtain ⟨_, _, rfl, _⟩ := h
    rfl
  obtain ⟨k, m, rfl, hm, hg, hl, q⟩ := h
  refine ⟨_, (pss_cons (ps_par (i := 2) (j := 3) rfl sc_inverse.nd rfl rfl (by decide) rfl rfl (pa_cons (pv 1) (pa_cons (pe_op op_mod (pv 0) (pv 1)) pa_nil)) (by rfl))
        (pss_cons (ps_asg (pe_tup (pa_cons pe_int (pa_cons pe_int pa_nil))) (pg_tupK (n := 2) K rfl (pgs_cons (pg_name (i := 4) sc_inverse.nd rfl (Or.inl rfl)) (pgs_cons (pg_name (i := 5) sc_inverse.nd rfl (Or.inl rfl)) pgs_nil))))
        (pss_cons (ps_while PassesOwn.never (pt_cmpR op_ne (pv 3) pe_int (nomark _))
          (pss_cons (ps_set (i := 6) sc_inverse.nd rfl (Or.inl rfl) (pe_op op_fdivW (pv 2) (pv 3)))
        (pss_cons (ps_par (i := 2) (j := 3) rfl sc_inverse.nd rfl rfl (by decide) rfl rfl (pa_cons (pv 3) (pa_cons (pe_op op_sub (pv 2) (pe_op op_mulW (pv 6) (pv 3))) pa_nil)) (by rfl))
        (pss_one (ps_par (i := 4) (j := 5) rfl sc_inverse.nd rfl rfl (by decide) rfl rfl (pa_cons (pv 5) (pa_cons (pe_op op_sub (pv 4) (pe_op op_mulW (pv 6) (pv 5))) pa_nil)) (by rfl))))))
        (pss_one (ps_ret (pe_op op_mod (pv 4) (pv 1))))))), ?_⟩
  have hms : Sml m := by unfold Sml; omega
  walk_at "go"
  refine XS.x_I hm ?_
  walk_at "go"
  refine ⟨_, _, rfl, ?_⟩
  walk_at "go"
  refine ⟨XS.sz (by simp), fun t2 ht2 => ?_⟩
  obtain ⟨e2, h2⟩ := XS.newly (o := HO.tup _) ht2
  generalize hGH2 : upd _ t2 _ = H2 at e2 h2 ⊢
  walk_at "go"
  refine XS.x_gtup (SqT.of h2) rfl ?_
  walk_at "go"
  refine ⟨fun n σ H' => ∃ (r o b f : Int) (y6 : Option V), σ = [some (.int k), some (.int m), some (.int r), some (.int o), some (.int b), some (.int f), y6] ∧ H' = H2 ∧ Euc k m r o b f ∧ b.natAbs ≤ m.natAbs ∧ r ≤ m ∧ o ≤ m ∧ o.natAbs = n, ⟨_, m, k % m, 0, 1, none, rfl, rfl, euc_start hm, by simp, Int.le_refl _, ?_, rfl⟩, ?_⟩
  · have := Int.emod_lt_of_pos k hm
    omega
  rintro n σ H3 ⟨r, o, b, f, y6, rfl, eH, E, hb, hrm, hom, rfl⟩
  subst eH
  have hro := E.rpos
  have ho := E.o0
  have hf := (E.small hm).1
  have small : ∀ {i : Int}, i.natAbs ≤ m.natAbs → Sml i := fun h => by
    unfold Sml at hms ⊢
    exact Nat.lt_of_le_of_lt (XS.log2_mono h) hms
  walk_at "go"
  refine XS.x_dn (fun c => ?_) (fun c => ?_)
  · refine ⟨fun σ' H' => ∃ (y6 : Option V), σ' = [some (.int k), some (.int m), some (.int o), some (.int (r - r / o * o)), some (.int f), some (.int (b - r / o * f)), y6] ∧ H' = H3, fun σ' H' ⟨y, e, e'⟩ => ?_, ?_⟩
    · obtain ⟨E', h0, hlt⟩ := euc_step E c
      have := E'.o0
      exact ⟨_, hlt, o, _, f, _, y, e, e', E', hf, hom, by omega, rfl⟩
    · have h0 : 0 < o := by omega
      have l9 : o.natAbs.log2 < 9000 := by have := XS.log2_mono (show o.natAbs ≤ m.natAbs by omega); omega
      walk_at "go"
      refine XS.x_I ⟨h0, l9⟩ ?_
      walk_at "go"
      have hq : (r / o).natAbs ≤ m.natAbs := by
        have h5 := Int.ediv_le_self o (by omega : 0 ≤ r)
        have h6 := Int.ediv_nonneg (by omega : 0 ≤ r) (by omega : 0 ≤ o)
        omega
      refine XS.x_I (mul_ok (small hq) (small (by omega))) ?_
      walk_at "go"
      refine ⟨_, _, rfl, ?_⟩
      walk_at "go"
      refine XS.x_I (mul_ok (small hq) (small hf)) ?_
      walk_at "go"
      refine ⟨_, _, rfl, ?_⟩
      exact ⟨_, rfl, rfl⟩
  · subst c
    walk_at "go"
    refine XS.x_I hm ?_
    have e := euc_end E hm hg
    exact q _ _ e2 (Int.emod_nonneg _ (by omega)) (Int.emod_lt_of_pos _ hm) e
abbrev s_common_share : Stmt := topS 27
abbrev N_common_share : List Str := ["parts", "number", "_", "many"]
abbrev P_common_share : List Str := ["parts", "number"]
theorem sc_common_share : FnScope N_common_share P_common_share (defScope s_common_share) := ⟨rfl, rfl, rfl, by decide +kernel, rfl, by decide +kernel, by decide +kernel⟩
theorem d_common_share (F : FunAt K mg "common_share" s_common_share P_common_share) (Z : Bl mg) (G_gcd : mg "gcd" = some (.builtin "math.gcd")) : DefAt P w K mg base CX0 1 "common_share" P_common_share (sp_share_all K) := by
  refine F.ok sc_common_share (fun vs H Q E h => ?_) (fun f cdv A outer s H vs Q E hr h => ?_)
  · obtain ⟨_, _, _, rfl, _⟩ := h
    rfl
  obtain ⟨v, ps, n, rfl, hd, q⟩ := h
  refine ⟨_, (pss_cons (ps_for PassesOwn.never rfl (pi_tupK K (pv 0)) (pg_tupK (n := 2) K rfl (pgs_cons (pg_name (i := 2) sc_common_share.nd rfl (Or.inl rfl)) (pgs_cons (pg_name (i := 3) sc_common_share.nd rfl (Or.inl rfl)) pgs_nil)))
          (pss_one (ps_set (i := 1) sc_common_share.nd rfl (Or.inl rfl) (pe_callBfun cr_gcd (by rfl) G_gcd (pa_cons (pv 1) (pa_cons (pv 3) pa_nil))))))
        (pss_one (ps_ret (pv 1)))), ?_⟩
  cases hd with
  | tup hs ha =>
  rename_i a us
  have hl := ha.len
  rw [List.length_map] at hl
  walk_at "go"
  refine XS.x_forT hs (fun i σ H' => ∃ (y2 y3 : Option V), σ = [some (.ref a), some (.int (gcdP n (ps.take i))), y2, y3] ∧ H' = H) ⟨none, none, rfl, rfl⟩ (fun i σ H' _ ⟨_, _, _, e⟩ => by rw [e]; exact hs) ?_ ?_
  · rintro i u σ H' hi ⟨y2, y3, rfl, rfl⟩
    obtain ⟨dd, hdd, du⟩ := ha.getV hi
    obtain ⟨p, hp, rfl⟩ := map_at hdd
    obtain ⟨c, rfl, hc⟩ := du.pair
    refine XS.x_gtup hc rfl ?_
    walk_at "go"
    refine XS.x_gcd ?_
    walk_at "go"
    refine ⟨some (.str p.1), some (.int p.2), ?_, rfl⟩
    rw [XS.take_more hp, gcdP_app]
    rfl
  · rintro σ H' ⟨y2, y3, rfl, rfl⟩
    rw [hl, List.take_length]
    walk_at "go"
    exact q

abbrev s__factor : Stmt := topS 28
abbrev N__factor : List Str := ["divisor", "parts", "_", "many", "opposite", "name"]
abbrev P__factor : List Str := ["divisor", "parts"]
theorem sc__factor : FnScope N__factor P__factor (defScope s__factor) := ⟨rfl, rfl, rfl, by decide +kernel, rfl, by decide +kernel, by decide +kernel⟩
theorem d__factor (F : FunAt K mg "_factor" s__factor P__factor) (Z : Bl mg) (G_gcd : mg "gcd" = some (.builtin "math.gcd")) (D_inverse : DefAt P w K mg base CX0 1 "inverse" P_inverse sp_inverse) : DefAt P w K mg base CX0 2 "_factor" P__factor (sp_factor K) := by
  refine F.ok sc__factor (fun vs H Q E h => ?_) (fun f cdv A outer s H vs Q E hr h => ?_)
  · obtain ⟨_, _, _, rfl, _⟩ := h
    rfl
  obtain ⟨v, ps, d, rfl, hd, h64, h2, hl, q⟩ := h
  have hu := hu_of hr
  refine ⟨_, (pss_cons (ps_for PassesOwn.never rfl (pi_listK K (pv 1)) (pg_tupK (n := 2) K rfl (pgs_cons (pg_name (i := 2) sc__factor.nd rfl (Or.inl rfl)) (pgs_cons (pg_name (i := 3) sc__factor.nd rfl (Or.inl rfl)) pgs_nil)))
          (pss_one (ps_if (pt_cmpR op_eq (pe_callBfun cr_gcd (by rfl) G_gcd (pa_cons (pv 3) (pa_cons (pv 0) pa_nil))) pe_int (nomark _))
          (pss_one (ps_ret (pe_callD D_inverse (hr.mono (by first | exact Nat.le_refl _ | omega | decide)) rfl pass0 (pa_cons (pv 3) (pa_cons (pv 0) pa_nil))))) pss_nil)))
        (pss_cons (ps_setLc (i := 4) (own := [("name", 5), ("many", 3)]) (by rfl) sc__factor.nd rfl rfl (sw_true rfl rfl rfl (by decide +kernel)) (pi_listK K (pv 1)) (blkOk_by (own := [("name", 5), ("many", 3)]) (N := N__factor) (sc := defScope s__factor) (by decide +kernel)) (fun _ _ _ _ _ => (pg_tupK (n := 2) K rfl (pgs_cons (pg_name (i := 5) sc__factor.nd rfl (Or.inl rfl)) (pgs_cons (pg_name (i := 3) sc__factor.nd rfl (Or.inl rfl)) pgs_nil)))) (fun _ _ _ _ _ => pts_nil) (fun _ _ _ _ _ => (pe_tup (pa_cons (pv 5) (pa_cons (pe_op op_sub (pv 0) (pv 3)) pa_nil)))))
        (pss_one (ps_ret (pe_ifExp (pt_cmpR (op_leD K hr.units) (pv 1) (pv 4) (nomark _)) pe_int (pe_un un_neg pe_int)))))), ?_⟩
  cases hd with
  | lst hs ha =>
  rename_i a us
  have hlen := ha.len
  rw [List.length_map] at hlen
  walk_at "go"
  refine XS.x_forL hs (fun i σ H' => ∃ (y2 y3 : Option V), σ = [some (.int d), some (.ref a), y2, y3, none, none] ∧ H' = H) ⟨none, none, rfl, rfl⟩ (fun i σ H' _ ⟨_, _, _, e⟩ => by rw [e]; exact hs) ?_ ?_
  · rintro i u σ H' hi ⟨y2, y3, rfl, rfl⟩
    obtain ⟨dd, hdd, du⟩ := ha.getV hi
    obtain ⟨p, hp, rfl⟩ := map_at hdd
    obtain ⟨c, rfl, hc⟩ := du.pair
    refine XS.x_gtup hc rfl ?_
    walk_at "go"
    refine XS.x_gcd ?_
    walk_at "go"
    refine XS.x_d (fun e => ?_) (fun e => ?_)
    · walk_at "go"
      refine ⟨p.2, d, rfl, by omega, by omega, hl, fun H1 r e1 r0 r1 hk => ?_⟩
      exact q r H1 e1 ⟨p.2, by rw [Int.mul_comm]; exact Int.dvd_of_emod_eq_zero (Int.emod_eq_emod_iff_emod_sub_eq_zero.mp hk)⟩ (by omega)
    · walk_at "go"
      exact ⟨some (.str p.1), some (.int p.2), rfl, rfl⟩
  · rintro σ H' ⟨y2, y3, rfl, rfl⟩
    walk_at "go"
    refine XS.x_lcW ps us (fun _ => true) (fun p => prT (p.1, d - p.2)) hs hlen (by omega) (fun _ => im_pair _) (fun i p z hi hz H1 Yes No e yes no => ?_) (fun l3 H1 acc _ e1 k1 d1 => ?_)
    · obtain ⟨c, rfl, hc⟩ := (pair_at ha hi hz).pair
      refine XS.x_gtup (e.seqT hc) rfl ?_
      walk_at "go"
      refine ⟨rfl, ?_⟩
      walk_at "go"
      refine ⟨XS.sz (by simp), fun t ht => ?_⟩
      obtain ⟨e1, h5⟩ := XS.newly (o := HO.tup _) ht
      generalize hH1 : upd _ t _ = H2 at e1 h5 ⊢
      exact yes _ _ e1 rfl (Dp.mkPair (p := (p.1, d - p.2)) (SqT.of h5))
    · walk_at "go"
      have e3 : (ps.filter fun _ => true).map (fun p => prT (p.1, d - p.2)) = (ps.map fun p => (p.1, d - p.2)).map prT := by
        rw [List.map_map, List.filter_eq_self.mpr (fun _ _ => rfl)]
        rfl
      rw [e3] at d1
      refine ⟨_, _, .lst (e1.seq hs) (DpAll.same e1 _ _ ha), .lst (SqL.of k1) d1, alike_prs ps _, by simp, flt_prs _ , fun b => ?_⟩
      walk_at "go"
      cases b with
      | true =>
        walk_at "go"
        exact q 1 _ e1 (un_one d) (by simp; omega)
      | false =>
        walk_at "go"
        exact q (-1) _ e1 (un_neg1 d) (by simp; omega)
abbrev s_above : Stmt := topS 18
abbrev N_above : List Str := ["one", "number", "parts", "by", "name", "many"]
abbrev P_above : List Str := ["one"]
theorem sc_above : FnScope N_above P_above (defScope s_above) := ⟨rfl, rfl, rfl, by decide +kernel, rfl, by decide +kernel, by decide +kernel⟩
theorem d_above {nm : List Str} {N : Nat} (hN : N.log2 < 4000) {aT aF aO : Addr} (Ct : Ct K w mg aT aF aO) (F : FunAt K mg "above" s_above P_above) (Z : Bl mg) (D_common_share : DefAt P w K mg base CX0 1 "common_share" P_common_share (sp_share_all K)) : DefAt P w K mg base CX0 2 "above" P_above (sp_form1 (Ab nm N) nm N .above K) := by
  refine F.ok sc_above (fun vs H Q E h => ?_) (fun f cdv A outer s H vs Q E hr h => ?_)
  · obtain ⟨_, _, rfl, _⟩ := h
    rfl
  obtain ⟨v, s1, rfl, h1, ins, q⟩ := h
  obtain ⟨n, ps⟩ := s1
  obtain ⟨a, b, us, rfl, a1, a2, a3⟩ := h1.sum
  have l1 := a3.len
  rw [List.length_map] at l1
  have hlen : ps.length < 64 := ins.len
  refine ⟨_, (pss_cons (ps_asg (pv 0) (pg_tupK (n := 2) K rfl (pgs_cons (pg_name (i := 1) sc_above.nd rfl (Or.inl rfl)) (pgs_cons (pg_name (i := 2) sc_above.nd rfl (Or.inl rfl)) pgs_nil))))
        (pss_cons (ps_if (pt_not (pt_truth (pv 2) (by intro _; rfl)))
          (pss_one (ps_ret (pe_ifExp (pt_cmpR op_gt (pv 1) pe_int (nomark _)) (pe_glob (v := .ref _) rfl Ct.c_TRUE rfl) (pe_glob (v := .ref _) rfl Ct.c_FALSE rfl)))) pss_nil)
        (pss_cons (ps_set (i := 3) sc_above.nd rfl (Or.inr rfl) (pe_callD D_common_share (hr.mono (by first | exact Nat.le_refl _ | omega | decide)) rfl pass0 (pa_cons (pv 2) (pa_cons pe_int pa_nil))))
        (pss_one (ps_ret (pe_tup (pa_cons pe_str (pa_cons (pe_tup (pa_cons (pe_un un_neg (pe_op op_fdivW (pe_un un_neg (pv 1)) (pv 3))) (pa_cons (pe_callTy (call_tupK K) (by rfl) Z.tuple (by decide +kernel) (pa_cons (pe_lc (own := [("name", 4), ("many", 5)]) (by rfl) sc_above.nd (pi_tupK K (pv 2)) (blkOk_by (own := [("name", 4), ("many", 5)]) (N := N_above) (sc := defScope s_above) (by decide +kernel)) (fun _ _ _ _ _ => (pg_tupK (n := 2) K rfl (pgs_cons (pg_name (i := 4) sc_above.nd rfl (Or.inl rfl)) (pgs_cons (pg_name (i := 5) sc_above.nd rfl (Or.inl rfl)) pgs_nil)))) (fun _ _ _ _ _ => pts_nil) (fun _ _ _ _ _ => (pe_tup (pa_cons (pv 4) (pa_cons (pe_op op_fdivW (pv 5) (pv 3)) pa_nil))))) pa_nil)) pa_nil))) pa_nil)))))))), ?_⟩
  walk_at "go"
  refine XS.x_gtup a1 rfl ?_
  walk_at "go"
  refine ⟨_, .inr (.inl ⟨us, a2, rfl⟩), ?_⟩
  cases ps with
  | nil =>
    cases us with
    | cons _ _ => simp at l1
    | nil =>
    refine XS.x_yes rfl ?_
    walk_at "go"
    refine XS.x_d (fun c => ?_) (fun c => ?_)
    · walk_at "go"
      exact q _ tT _ (Same.refl _) (.inl rfl) (fun f => (decide_eq_true (by show 0 < n + 0; omega) : decide (0 < n + dot f []) = true).symm) (Ct.d_TRUE _)
    · walk_at "go"
      exact q _ tF _ (Same.refl _) (.inr (.inl rfl)) (fun f => (decide_eq_false (by show ¬ 0 < n + 0; omega) : decide (0 < n + dot f []) = false).symm) (Ct.d_FALSE _)
  | cons p ps =>
    cases us with
    | nil => simp at l1
    | cons u us =>
    have ne : (p :: ps) ≠ [] := by simp
    generalize p :: ps = ps at h1 ins a3 l1 hlen q ne
    refine XS.x_no rfl ?_
    generalize u :: us = us at a2 a3 l1
    walk_at "go"
    refine ⟨_, ps, 0, rfl, .tup a2 a3, ?_⟩
    walk_at "go"
    have nz : ∃ p ∈ ps, p.2 ≠ 0 := by
      cases ps with
      | nil => exact absurd rfl ne
      | cons p ps => exact ⟨p, List.mem_cons_self .., ins.no.nz p (List.mem_cons_self ..)⟩
    have g0 : 0 < gcdP 0 ps := gcdP_pos (.inr nz)
    have gd : ∀ p ∈ ps, (gcdP 0 ps : Int) ∣ p.2 := fun p hp => idvd ((gcdP_dvd ps 0).2 p hp)
    have gl : ((gcdP 0 ps : Nat) : Int).natAbs.log2 < 9000 := by
      obtain ⟨p, hp, h0⟩ := nz
      have h5 := Nat.le_of_dvd (by omega) ((gcdP_dvd ps 0).2 p hp)
      have h6 := log2_mono (Nat.le_trans h5 (ins.bd.2 p hp))
      show (gcdP 0 ps).log2 < 9000
      omega
    generalize hg : ((gcdP 0 ps : Nat) : Int) = g at gd gl
    have g0' : 0 < g := by omega
    refine XS.x_I ⟨g0', gl⟩ ?_
    walk_at "go"
    refine XS.x_lcT ps us (fun _ => true) (fun p => prT (p.1, p.2 / g)) a2 l1 (by omega) (fun _ => im_pair _) (fun i p z hi hz H1 Yes No e yes no => ?_) (fun l3 H1 acc _ e1 k1 d1 => ?_)
    · obtain ⟨c, rfl, hc⟩ := (pair_at a3 hi hz).pair
      refine XS.x_gtup (e.seqT hc) rfl ?_
      walk_at "go"
      refine ⟨rfl, ?_⟩
      walk_at "go"
      refine XS.x_I ⟨g0', gl⟩ ?_
      walk_at "go"
      refine ⟨XS.sz (by simp), fun t ht => ?_⟩
      obtain ⟨e1, h5⟩ := XS.newly (o := HO.tup _) ht
      generalize hH1 : upd _ t _ = H2 at e1 h5 ⊢
      exact yes _ _ e1 rfl (Dp.mkPair (p := (p.1, p.2 / g)) (SqT.of h5))
    · have e3 : (ps.filter fun _ => true).map (fun p => prT (p.1, p.2 / g)) = (divP g ps).map prT := by
        unfold divP
        rw [List.map_map, List.filter_eq_self.mpr (fun _ _ => rfl)]
        rfl
      rw [e3] at d1
      walk_at "go"
      refine XS.x_tupL (SqL.of k1) fun t6 H6 ht6 e6 k6 => ?_
      walk_at "go"
      refine ⟨XS.sz (by simp), fun t7 ht7 => ?_⟩
      obtain ⟨e7, k7⟩ := XS.newly (o := HO.tup _) ht7
      generalize hGH7 : upd _ t7 _ = H7 at e7 k7 ⊢
      walk_at "go"
      refine ⟨XS.sz (by simp), fun t8 ht8 => ?_⟩
      obtain ⟨e8, k8⟩ := XS.newly (o := HO.tup _) ht8
      refine q t8 (.above (-(-n / g), divP g ps)) _ (e1.trans (e6.trans (e7.trans e8))) (.inr (.inr ⟨_, rfl, divP_so (n := n) (ins.so ne) gd (Nat.le_trans (ceil_abs g0') ins.bd.1)⟩)) (fun f => ?_)
        (XS.Dp.mkAbove (SqT.of k8) (Dp.mkSum (s := (-(-n / g), divP g ps)) (e8.seqT (SqT.of k7)) ((e7.trans e8).seqT (SqT.of k6)) (DpAll.same (e6.trans (e7.trans e8)) _ _ d1)))
      show decide (0 < -(-n / g) + dot f (divP g ps)) = decide (0 < n + dot f ps)
      rw [divP_dot gd f, above_div g0']
abbrev s_nought : Stmt := topS 19
abbrev N_nought : List Str := ["one", "number", "parts", "by", "name", "many"]
abbrev P_nought : List Str := ["one"]
theorem sc_nought : FnScope N_nought P_nought (defScope s_nought) := ⟨rfl, rfl, rfl, by decide +kernel, rfl, by decide +kernel, by decide +kernel⟩
theorem d_nought {nm : List Str} {N : Nat} (hN : N.log2 < 4000) {aT aF aO : Addr} (Ct : Ct K w mg aT aF aO) (F : FunAt K mg "nought" s_nought P_nought) (Z : Bl mg) (D_common_share : DefAt P w K mg base CX0 1 "common_share" P_common_share (sp_share_all K)) : DefAt P w K mg base CX0 2 "nought" P_nought (sp_form1 (Atom nm N) nm N .nought K) := by
  refine F.ok sc_nought (fun vs H Q E h => ?_) (fun f cdv A outer s H vs Q E hr h => ?_)
  · obtain ⟨_, _, rfl, _⟩ := h
    rfl
  obtain ⟨v, s1, rfl, h1, ins, q⟩ := h
  obtain ⟨n, ps⟩ := s1
  obtain ⟨a, b, us, rfl, a1, a2, a3⟩ := h1.sum
  have l1 := a3.len
  rw [List.length_map] at l1
  have hlen : ps.length < 64 := ins.len
  refine ⟨_, (pss_cons (ps_asg (pv 0) (pg_tupK (n := 2) K rfl (pgs_cons (pg_name (i := 1) sc_nought.nd rfl (Or.inl rfl)) (pgs_cons (pg_name (i := 2) sc_nought.nd rfl (Or.inl rfl)) pgs_nil))))
        (pss_cons (ps_if (pt_not (pt_truth (pv 2) (by intro _; rfl)))
          (pss_one (ps_ret (pe_ifExp (pt_cmpR op_eq (pv 1) pe_int (nomark _)) (pe_glob (v := .ref _) rfl Ct.c_TRUE rfl) (pe_glob (v := .ref _) rfl Ct.c_FALSE rfl)))) pss_nil)
        (pss_cons (ps_set (i := 3) sc_nought.nd rfl (Or.inr rfl) (pe_callD D_common_share (hr.mono (by first | exact Nat.le_refl _ | omega | decide)) rfl pass0 (pa_cons (pv 2) (pa_cons pe_int pa_nil))))
        (pss_cons (ps_if (pt_cmpR op_ne (pe_op op_mod (pv 1) (pv 3)) pe_int (nomark _))
          (pss_one (ps_ret (pe_glob (v := .ref _) rfl Ct.c_FALSE rfl))) pss_nil)
        (Evl.pss_cut (ps_if (pt_cmpR op_lt (pe_ix (ix_tupK K) (pe_ix (ix_tupK K) (pv 2) pe_int (fun _ _ => rfl)) pe_int (fun _ _ => rfl)) pe_int (nomark _))
          (pss_one (ps_set (i := 3) sc_nought.nd rfl (Or.inr rfl) (pe_un un_neg (pv 3)))) pss_nil)
        (pss_one (ps_ret (pe_tup (pa_cons pe_str (pa_cons (pe_tup (pa_cons (pe_op op_fdivN (pv 1) (pv 3)) (pa_cons (pe_callTy (call_tupK K) (by rfl) Z.tuple (by decide +kernel) (pa_cons (pe_lc (own := [("name", 4), ("many", 5)]) (by rfl) sc_nought.nd (pi_tupK K (pv 2)) (blkOk_by (own := [("name", 4), ("many", 5)]) (N := N_nought) (sc := defScope s_nought) (by decide +kernel)) (fun _ _ _ _ _ => (pg_tupK (n := 2) K rfl (pgs_cons (pg_name (i := 4) sc_nought.nd rfl (Or.inl rfl)) (pgs_cons (pg_name (i := 5) sc_nought.nd rfl (Or.inl rfl)) pgs_nil)))) (fun _ _ _ _ _ => pts_nil) (fun _ _ _ _ _ => (pe_tup (pa_cons (pv 4) (pa_cons (pe_op op_fdivN (pv 5) (pv 3)) pa_nil))))) pa_nil)) pa_nil))) pa_nil)))))))))), ?_⟩
  walk_at "go"
  refine XS.x_gtup a1 rfl ?_
  walk_at "go"
  refine ⟨_, .inr (.inl ⟨us, a2, rfl⟩), ?_⟩
  cases ps with
  | nil =>
    cases us with
    | cons _ _ => simp at l1
    | nil =>
    refine XS.x_yes rfl ?_
    walk_at "go"
    refine XS.x_d (fun c => ?_) (fun c => ?_)
    · walk_at "go"
      exact q _ tT _ (Same.refl _) (.inl rfl) (fun f => (decide_eq_true (by show n + 0 = 0; omega) : decide (n + dot f [] = 0) = true).symm) (Ct.d_TRUE _)
    · walk_at "go"
      exact q _ tF _ (Same.refl _) (.inr (.inl rfl)) (fun f => (decide_eq_false (by show ¬ n + 0 = 0; omega) : decide (n + dot f [] = 0) = false).symm) (Ct.d_FALSE _)
  | cons p ps =>
    cases us with
    | nil => simp at l1
    | cons u us =>
    have ne : (p :: ps) ≠ [] := by simp
    have hp0 : (p :: ps)[0]? = some p := rfl
    have hu0 : (u :: us)[0]? = some u := rfl
    refine XS.x_no rfl ?_
    generalize p :: ps = ps at h1 ins a3 l1 hlen q ne hp0
    generalize u :: us = us at a2 a3 l1 hu0
    walk_at "go"
    refine ⟨_, ps, 0, rfl, .tup a2 a3, ?_⟩
    walk_at "go"
    have nz : ∃ p ∈ ps, p.2 ≠ 0 := ⟨p, List.mem_of_getElem? hp0, ins.no.nz p (List.mem_of_getElem? hp0)⟩
    have g0 : 0 < gcdP 0 ps := gcdP_pos (.inr nz)
    have gd : ∀ p ∈ ps, (gcdP 0 ps : Int) ∣ p.2 := fun p hp => idvd ((gcdP_dvd ps 0).2 p hp)
    have gl : ((gcdP 0 ps : Nat) : Int).natAbs < 1073741824 := by
      obtain ⟨p, hp, h0⟩ := nz
      have h5 := Nat.le_of_dvd (by omega) ((gcdP_dvd ps 0).2 p hp)
      have h6 := ins.sh p hp
      show gcdP 0 ps < _
      omega
    generalize hg : ((gcdP 0 ps : Nat) : Int) = g at gd gl
    have g0' : 0 < g := by omega
    refine XS.x_I g0' ?_
    walk_at "go"
    refine XS.x_dn (fun c => ?_) (fun c => ?_)
    · walk_at "go"
      refine q _ tF _ (Same.refl _) (.inr (.inl rfl)) (fun f => ?_) (Ct.d_FALSE _)
      show false = decide (n + dot f ps = 0)
      rw [divP_dot gd f, nought_no fun h => c (Int.emod_eq_zero_of_dvd h)]
    · walk_at "go"
      have hn : g ∣ n := Int.dvd_of_emod_eq_zero c
      refine XS.x_cut (fun σ H' => ∃ g' : Int, σ = [some (.ref a), some (.int n), some (.ref b), some (.int g'), none, none] ∧ H' = H ∧ (g' = g ∨ g' = -g)) ?_ ?_
      · walk_at "go"
        refine XS.x_ixT a2 (XS.atI_get (i := 0) hu0) ?_
        obtain ⟨cc, rfl, hcc⟩ := (pair_at a3 hp0 hu0).pair
        walk_at "go"
        refine XS.x_ixT hcc (XS.atI_get (i := 1) rfl) ?_
        walk_at "go"
        refine XS.x_d (fun c => ?_) (fun c => ?_)
        · walk_at "go"
          exact ⟨-g, rfl, rfl, .inr rfl⟩
        · walk_at "go"
          exact ⟨g, rfl, rfl, .inl rfl⟩
      rintro σ H' ⟨g', rfl, rfl, hg'⟩
      have n0 : g' ≠ 0 := by omega
      have hn' : g' ∣ n := by rcases hg' with rfl | rfl; exact hn; exact Int.neg_dvd.mpr hn
      have gd' : ∀ p ∈ ps, g' ∣ p.2 := fun p hp => by rcases hg' with rfl | rfl; exact gd p hp; exact Int.neg_dvd.mpr (gd p hp)
      have gl' : g'.natAbs < 1073741824 := by rcases hg' with rfl | rfl; exact gl; rw [Int.natAbs_neg]; exact gl
      walk_at "go"
      refine XS.x_I ⟨n0, gl'⟩ ?_
      rw [Int.fdiv_eq_ediv_of_dvd hn']
      walk_at "go"
      refine XS.x_lcT ps us (fun _ => true) (fun p => prT (p.1, p.2 / g')) a2 l1 (by omega) (fun _ => im_pair _) (fun i p z hi hz H1 Yes No e yes no => ?_) (fun l3 H1 acc _ e1 k1 d1 => ?_)
      · obtain ⟨c, rfl, hc⟩ := (pair_at a3 hi hz).pair
        refine XS.x_gtup (e.seqT hc) rfl ?_
        walk_at "go"
        refine ⟨rfl, ?_⟩
        walk_at "go"
        refine XS.x_I ⟨n0, gl'⟩ ?_
        rw [Int.fdiv_eq_ediv_of_dvd (gd' p (List.mem_of_getElem? hi))]
        walk_at "go"
        refine ⟨XS.sz (by simp), fun t ht => ?_⟩
        obtain ⟨e1, h5⟩ := XS.newly (o := HO.tup _) ht
        generalize hH1 : upd _ t _ = H2 at e1 h5 ⊢
        exact yes _ _ e1 rfl (Dp.mkPair (p := (p.1, p.2 / g')) (SqT.of h5))
      · have e3 : (ps.filter fun _ => true).map (fun p => prT (p.1, p.2 / g')) = (divP g' ps).map prT := by
          unfold divP
          rw [List.map_map, List.filter_eq_self.mpr (fun _ _ => rfl)]
          rfl
        rw [e3] at d1
        walk_at "go"
        refine XS.x_tupL (SqL.of k1) fun t6 H6 ht6 e6 k6 => ?_
        walk_at "go"
        refine ⟨XS.sz (by simp), fun t7 ht7 => ?_⟩
        obtain ⟨e7, k7⟩ := XS.newly (o := HO.tup _) ht7
        generalize hGH7 : upd _ t7 _ = H7 at e7 k7 ⊢
        walk_at "go"
        refine ⟨XS.sz (by simp), fun t8 ht8 => ?_⟩
        obtain ⟨e8, k8⟩ := XS.newly (o := HO.tup _) ht8
        refine q t8 (.nought (n / g', divP g' ps)) _ (e1.trans (e6.trans (e7.trans e8))) (.inr (.inr (.nought (divP_so (n := n) (ins.so ne) gd' (Nat.le_trans (div_abs hn') ins.bd.1))))) (fun f => ?_)
          (XS.Dp.mkNought (SqT.of k8) (Dp.mkSum (s := (n / g', divP g' ps)) (e8.seqT (SqT.of k7)) ((e7.trans e8).seqT (SqT.of k6)) (DpAll.same (e6.trans (e7.trans e8)) _ _ d1)))
        show decide (n / g' + dot f (divP g' ps) = 0) = decide (n + dot f ps = 0)
        rw [divP_dot gd' f, nought_div n0 hn']

abbrev s_goes : Stmt := topS 20
abbrev N_goes : List Str := ["divisor", "one", "number", "parts", "by", "small", "factor", "name", "many"]
abbrev P_goes : List Str := ["divisor", "one"]
theorem sc_goes : FnScope N_goes P_goes (defScope s_goes) := ⟨rfl, rfl, rfl, by decide +kernel, rfl, by decide +kernel, by decide +kernel⟩
theorem d_goes {nm : List Str} {N : Nat} (hN : N.log2 < 4000) {aT aF aO : Addr} (Ct : Ct K w mg aT aF aO) (F : FunAt K mg "goes" s_goes P_goes) (Z : Bl mg) (Z2 : Bl2 mg) (D_common_share : DefAt P w K mg base CX0 1 "common_share" P_common_share (sp_share_all K))
    (D_nought : DefAt P w K mg base CX0 2 "nought" P_nought (sp_form1 (Atom nm N) nm N .nought K)) (D__factor : DefAt P w K mg base CX0 2 "_factor" P__factor (sp_factor K)) : DefAt P w K mg base CX0 3 "goes" P_goes (sp_goes nm N K) := by
  refine F.ok sc_goes (fun vs H Q E h => ?_) (fun f cdv A outer s H vs Q E hr h => ?_)
  · obtain ⟨_, _, _, rfl, _⟩ := h
    rfl
  obtain ⟨v, s1, m, rfl, h1, ins, hm, hmN, q⟩ := h
  obtain ⟨n, ps⟩ := s1
  obtain ⟨a, b, us, rfl, a1, a2, a3⟩ := h1.sum
  have l1 := a3.len
  rw [List.length_map] at l1
  have hlen : ps.length < 64 := ins.len
  refine ⟨_, (pss_cons (ps_set (i := 0) sc_goes.nd rfl (Or.inr rfl) (pe_callB call_abs (by rfl) Z2.abs (by decide +kernel) (pa_cons (pv 0) pa_nil)))
        (pss_cons (ps_if (pt_cmpR op_eq (pv 0) pe_int (nomark _))
          (pss_one (ps_ret (pe_callD D_nought (hr.mono (by first | exact Nat.le_refl _ | omega | decide)) rfl pass0 (pa_cons (pv 1) pa_nil)))) pss_nil)
        (pss_cons (ps_asg (pv 1) (pg_tupK (n := 2) K rfl (pgs_cons (pg_name (i := 2) sc_goes.nd rfl (Or.inl rfl)) (pgs_cons (pg_name (i := 3) sc_goes.nd rfl (Or.inl rfl)) pgs_nil))))
        (pss_cons (ps_set (i := 4) sc_goes.nd rfl (Or.inr rfl) (pe_callD D_common_share (hr.mono (by first | exact Nat.le_refl _ | omega | decide)) rfl pass0 (pa_cons (pv 3) (pa_cons (pv 0) pa_nil))))
        (pss_cons (ps_if (pt_cmpR op_ne (pe_op op_mod (pv 2) (pv 4)) pe_int (nomark _))
          (pss_one (ps_ret (pe_glob (v := .ref _) rfl Ct.c_FALSE rfl))) pss_nil)
        (pss_cons (ps_set (i := 0) sc_goes.nd rfl (Or.inr rfl) (pe_op op_fdivW (pv 0) (pv 4)))
        (pss_cons (ps_if (pt_cmpR op_eq (pv 0) pe_int (nomark _))
          (pss_one (ps_ret (pe_glob (v := .ref _) rfl Ct.c_TRUE rfl))) pss_nil)
        (pss_cons (ps_setLc (i := 5) (own := [("name", 7), ("many", 8)]) (by rfl) sc_goes.nd rfl rfl (sw_true rfl rfl rfl (by decide +kernel)) (pi_tupK K (pv 3)) (blkOk_by (own := [("name", 7), ("many", 8)]) (N := N_goes) (sc := defScope s_goes) (by decide +kernel)) (fun _ _ _ _ _ => (pg_tupK (n := 2) K rfl (pgs_cons (pg_name (i := 7) sc_goes.nd rfl (Or.inl rfl)) (pgs_cons (pg_name (i := 8) sc_goes.nd rfl (Or.inl rfl)) pgs_nil)))) (fun _ _ _ _ _ => pts_nil) (fun _ _ _ _ _ => (pe_tup (pa_cons (pv 7) (pa_cons (pe_op op_mod (pe_op op_fdivW (pv 8) (pv 4)) (pv 0)) pa_nil)))))
        (pss_cons (ps_setLc (i := 5) (own := [("name", 7), ("many", 8)]) (by rfl) sc_goes.nd rfl rfl (sw_true rfl rfl rfl (by decide +kernel)) (pi_listK K (pv 5)) (blkOk_by (own := [("name", 7), ("many", 8)]) (N := N_goes) (sc := defScope s_goes) (by decide +kernel)) (fun _ _ _ _ _ => (pg_tupK (n := 2) K rfl (pgs_cons (pg_name (i := 7) sc_goes.nd rfl (Or.inl rfl)) (pgs_cons (pg_name (i := 8) sc_goes.nd rfl (Or.inl rfl)) pgs_nil)))) (fun _ _ _ _ _ => (pts_one (pt_cmpR op_ne (pv 8) pe_int (nomark _)))) (fun _ _ _ _ _ => (pe_tup (pa_cons (pv 7) (pa_cons (pv 8) pa_nil)))))
        (pss_cons (ps_set (i := 6) sc_goes.nd rfl (Or.inr rfl) (pe_callD D__factor (hr.mono (by first | exact Nat.le_refl _ | omega | decide)) rfl pass0 (pa_cons (pv 0) (pa_cons (pv 5) pa_nil))))
        (pss_cons (ps_set (i := 3) sc_goes.nd rfl (Or.inl rfl) (pe_callTy (call_tupK K) (by rfl) Z.tuple (by decide +kernel) (pa_cons (pe_lc (own := [("name", 7), ("many", 8)]) (by rfl) sc_goes.nd (pi_listK K (pv 5)) (blkOk_by (own := [("name", 7), ("many", 8)]) (N := N_goes) (sc := defScope s_goes) (by decide +kernel)) (fun _ _ _ _ _ => (pg_tupK (n := 2) K rfl (pgs_cons (pg_name (i := 7) sc_goes.nd rfl (Or.inl rfl)) (pgs_cons (pg_name (i := 8) sc_goes.nd rfl (Or.inl rfl)) pgs_nil)))) (fun _ _ _ _ _ => pts_nil) (fun _ _ _ _ _ => (pe_tup (pa_cons (pv 7) (pa_cons (pe_op op_mod (pe_op op_mulW (pv 8) (pv 6)) (pv 0)) pa_nil))))) pa_nil)))
        (pss_one (ps_ret (pe_tup (pa_cons pe_str (pa_cons (pv 0) (pa_cons (pe_tup (pa_cons (pe_op op_mod (pe_op op_mulW (pe_op op_fdivW (pv 2) (pv 4)) (pv 6)) (pv 0)) (pa_cons (pv 3) pa_nil))) pa_nil))))))))))))))))), ?_⟩
  walk_at "go"
  refine ⟨m, rfl, ?_⟩
  rw [if_neg (by omega)]
  walk_at "go"
  refine XS.x_no (decide_eq_false (by omega)) ?_
  walk_at "go"
  refine XS.x_gtup a1 rfl ?_
  walk_at "go"
  have hm' : m = (m.natAbs : Int) := by omega
  refine ⟨_, ps, m.natAbs, by rw [← hm']; rfl, .tup a2 a3, ?_⟩
  have g0 : 0 < gcdP m.natAbs ps := gcdP_pos (.inl (by omega))
  obtain ⟨gm, gd0⟩ := gcdP_dvd ps m.natAbs
  have gd : ∀ p ∈ ps, (gcdP m.natAbs ps : Int) ∣ p.2 := fun p hp => idvd (gd0 p hp)
  have gm' : (gcdP m.natAbs ps : Int) ∣ m := idvd gm
  have gle := Nat.le_of_dvd (by omega) gm
  have gl : ((gcdP m.natAbs ps : Nat) : Int).natAbs.log2 < 9000 := by
    have h6 := log2_mono (Nat.le_trans gle hmN)
    show (gcdP m.natAbs ps).log2 < 9000
    omega
  obtain ⟨g, hg⟩ : ∃ g : Int, g = ((gcdP m.natAbs ps : Nat) : Int) := ⟨_, rfl⟩
  rw [← hg] at gd gm' gl ⊢
  have g0' : 0 < g := by omega
  have smallm : ∀ {i : Int}, i.natAbs ≤ N → Sml i := fun h => by
    have := log2_mono h
    unfold Sml
    omega
  walk_at "go"
  refine XS.x_I g0' ?_
  walk_at "go"
  refine XS.x_dn (fun c => ?_) (fun c => ?_)
  · walk_at "go"
    refine q _ tF _ (Same.refl _) (.inr (.inl rfl)) (fun f => ?_) (Ct.d_FALSE _)
    show false = decide ((n + dot f ps) % m = 0)
    rw [divP_dot gd f, goes_no gm' fun h => c (Int.emod_eq_zero_of_dvd h)]
  · have hn : g ∣ n := Int.dvd_of_emod_eq_zero c
    walk_at "go"
    refine XS.x_I ⟨g0', gl⟩ ?_
    walk_at "go"
    obtain ⟨d, hd⟩ : ∃ d, d = m / g := ⟨_, rfl⟩
    have hmd : m = g * d := by rw [hd, Int.mul_ediv_cancel' gm']
    have d0 : 0 < d := by
      rcases Int.lt_or_le 0 d with h | h
      · exact h
      · have := Int.mul_nonpos_of_nonneg_of_nonpos (by omega : 0 ≤ g) h
        omega
    have dle : d.natAbs ≤ m.natAbs := by rw [hd]; exact div_abs gm'
    rw [← hd]
    refine XS.x_d (fun c1 => ?_) (fun c1 => ?_)
    · walk_at "go"
      refine q _ tT _ (Same.refl _) (.inl rfl) (fun f => ?_) (Ct.d_TRUE _)
      show true = decide ((n + dot f ps) % m = 0)
      rw [divP_dot gd f, hmd, c1, goes_div (by omega) hn]
      simp
    · have d2 : 2 ≤ d := by omega
      walk_at "go"
      refine XS.x_lcT ps us (fun _ => true) (fun p => prT (p.1, p.2 / g % d)) a2 l1 (by omega) (fun _ => im_pair _) (fun i p z hi hz H1 Yes No e yes no => ?_) (fun l3 H3 acc3 hl3 e3 k3 d3 => ?_)
      · obtain ⟨c, rfl, hc⟩ := (pair_at a3 hi hz).pair
        refine XS.x_gtup (e.seqT hc) rfl ?_
        walk_at "go"
        refine ⟨rfl, ?_⟩
        walk_at "go"
        refine XS.x_I ⟨g0', gl⟩ ?_
        walk_at "go"
        refine XS.x_I d0 ?_
        walk_at "go"
        refine ⟨XS.sz (by simp), fun t ht => ?_⟩
        obtain ⟨e1, h5⟩ := XS.newly (o := HO.tup _) ht
        generalize hH1 : upd _ t _ = H2 at e1 h5 ⊢
        exact yes _ _ e1 rfl (Dp.mkPair (p := (p.1, p.2 / g % d)) (SqT.of h5))
      have ed3 : (ps.filter fun _ => true).map (fun p => prT (p.1, p.2 / g % d)) = ((divP g ps).map fun p => (p.1, p.2 % d)).map prT := by
        unfold divP
        rw [List.map_map, List.map_map, List.filter_eq_self.mpr (fun _ _ => rfl)]
        rfl
      rw [ed3] at d3
      have l3' := d3.len
      rw [List.length_map] at l3'
      have lz3 : ((divP g ps).map fun p => (p.1, p.2 % d)).length < 64 := by unfold divP; rw [List.length_map, List.length_map]; exact hlen
      walk_at "go"
      refine XS.x_lcW ((divP g ps).map fun p => (p.1, p.2 % d)) acc3 (fun p => decide (p.2 ≠ 0)) prT (SqL.of k3) l3' (by omega) (fun _ => im_pair _) (fun i p z hi hz H1 Yes No e yes no => ?_) (fun l4 H4 acc4 hl4 e4 k4 d4 => ?_)
      · obtain ⟨c, rfl, hc⟩ := (pair_at d3 hi hz).pair
        refine XS.x_gtup (e.seqT hc) rfl ?_
        walk_at "go"
        refine ⟨rfl, ?_⟩
        walk_at "go"
        refine XS.x_dn (fun c => ?_) (fun c => ?_)
        · walk_at "go"
          refine ⟨XS.sz (by simp), fun t ht => ?_⟩
          obtain ⟨e1, h5⟩ := XS.newly (o := HO.tup _) ht
          generalize hH1 : upd _ t _ = H2 at e1 h5 ⊢
          exact yes _ _ e1 (by simpa using c) (Dp.mkPair (p := p) (SqT.of h5))
        · exact no _ (Same.refl _) (by simpa using c)
      have d4' : DpAll K H4 acc4 ((redP d (divP g ps)).map prT) := d4
      have l4' := d4'.len
      rw [List.length_map] at l4'
      have lz4 : (redP d (divP g ps)).length < 64 := Nat.lt_of_le_of_lt (List.length_filter_le _ _) lz3
      walk_at "go"
      refine ⟨_, redP d (divP g ps), d, rfl, .lst (SqL.of k4) d4', lz4, d2, ?_, fun cc H5 e5 un ccle => ?_⟩
      · have := log2_mono (Nat.le_trans dle hmN)
        omega
      have pm := fun q (hq : q ∈ redP d (divP g ps)) => redP_mem d0 hq
      have dN : d.natAbs ≤ N := Nat.le_trans dle hmN
      have scc : Sml cc := smallm (by omega)
      walk_at "go"
      refine XS.x_lcW (redP d (divP g ps)) acc4 (fun _ => true) (fun p => prT (p.1, p.2 * cc % d)) (e5.seq (SqL.of k4)) l4' (by omega) (fun _ => im_pair _) (fun i p z hi hz H1 Yes No e yes no => ?_) (fun l6 H6 acc6 hl6 e6 k6 d6 => ?_)
      · obtain ⟨c, rfl, hc⟩ := (pair_at (DpAll.same e5 _ _ d4') hi hz).pair
        refine XS.x_gtup (e.seqT hc) rfl ?_
        walk_at "go"
        refine ⟨rfl, ?_⟩
        walk_at "go"
        have hpm := pm p (List.mem_of_getElem? hi)
        refine XS.x_I (mul_ok (smallm (by omega)) scc) ?_
        walk_at "go"
        refine XS.x_I d0 ?_
        walk_at "go"
        refine ⟨XS.sz (by simp), fun t ht => ?_⟩
        obtain ⟨e1, h5⟩ := XS.newly (o := HO.tup _) ht
        generalize hH1 : upd _ t _ = H2 at e1 h5 ⊢
        exact yes _ _ e1 rfl (Dp.mkPair (p := (p.1, p.2 * cc % d)) (SqT.of h5))
      have ed6 : ((redP d (divP g ps)).filter fun _ => true).map (fun p => prT (p.1, p.2 * cc % d)) = (mulP cc d (redP d (divP g ps))).map prT := by
        unfold mulP
        rw [List.map_map, List.filter_eq_self.mpr (fun _ _ => rfl)]
        rfl
      rw [ed6] at d6
      walk_at "go"
      refine XS.x_tupL (SqL.of k6) fun t7 H7 ht7 e7 k7 => ?_
      walk_at "go"
      refine XS.x_I ⟨g0', gl⟩ ?_
      walk_at "go"
      refine XS.x_I (mul_ok (smallm (Nat.le_trans (div_abs hn) ins.bd.1)) scc) ?_
      walk_at "go"
      refine XS.x_I d0 ?_
      walk_at "go"
      refine ⟨XS.sz (by simp), fun t8 ht8 => ?_⟩
      obtain ⟨e8, k8⟩ := XS.newly (o := HO.tup _) ht8
      generalize hGH8 : upd _ t8 _ = H8 at e8 k8 ⊢
      walk_at "go"
      refine ⟨XS.sz (by simp), fun t9 ht9 => ?_⟩
      obtain ⟨e9, k9⟩ := XS.newly (o := HO.tup _) ht9
      have rs : Rising ((redP d (divP g ps)).map (·.1)) := redP_rise (by rw [divP_names]; exact ins.no.rise)
      have sub : ∀ p ∈ redP d (divP g ps), p.1 ∈ nm := fun p hp => by
        have := (pm p hp).2.2
        rw [divP_names] at this
        obtain ⟨p', hp', e⟩ := List.mem_map.mp this
        rw [← e]
        exact ins.sub p' hp'
      have nes : redP d (divP g ps) ≠ [] := by rw [hg]; exact small_ne rfl (by rw [← hg]; exact hmd) d2 hm
      refine q t9 (.goes d (n / g * cc % d, mulP cc d (redP d (divP g ps)))) _ (e3.trans (e4.trans (e5.trans (e6.trans (e7.trans (e8.trans e9)))))) (.inr (.inr (.goes (mul_go un d2 dN rs sub nes fun p hp => ⟨(pm p hp).1, (pm p hp).2.1⟩)))) (fun f => ?_)
        (XS.Dp.mkGoes (SqT.of k9) (Dp.mkSum (s := (n / g * cc % d, mulP cc d (redP d (divP g ps)))) (e9.seqT (SqT.of k8)) ((e8.trans e9).seqT (SqT.of k7)) (DpAll.same (e7.trans (e8.trans e9)) _ _ d6)))
      rw [goes_form (by omega) hn gd un f, ← hmd]
abbrev s_simple : Stmt := topS 21
abbrev N_simple : List Str := ["statement"]
abbrev P_simple : List Str := ["statement"]
theorem sc_simple : FnScope N_simple P_simple (defScope s_simple) := ⟨rfl, rfl, rfl, by decide +kernel, rfl, by decide +kernel, by decide +kernel⟩
theorem d_simple {nm : List Str} {N : Nat} (F : FunAt K mg "simple" s_simple P_simple) (Z : Bl mg) (D_above : DefAt P w K mg base CX0 2 "above" P_above (sp_form1 (Atom nm N) nm N .above K)) (D_nought : DefAt P w K mg base CX0 2 "nought" P_nought (sp_form1 (Atom nm N) nm N .nought K))
    (D_goes : DefAt P w K mg base CX0 3 "goes" P_goes (sp_goes nm N K)) : DefAt P w K mg base CX0 4 "simple" P_simple (sp_simple nm N K) := by
  refine F.ok sc_simple (fun vs H Q E h => ?_) (fun f cdv A outer s H vs Q E hr h => ?_)
  · obtain ⟨_, _, rfl, _⟩ := h
    rfl
  obtain ⟨v, a, rfl, h1, ⟨e, ins, hgo⟩, q⟩ := h
  refine ⟨_, (pss_cons (ps_if (pt_cmpR op_eq (pe_ix (ix_tupK K) (pv 0) pe_int (fun _ _ => rfl)) pe_str (nomark _))
          (pss_one (ps_ret (pe_callD D_above (hr.mono (by first | exact Nat.le_refl _ | omega | decide)) rfl pass0 (pa_cons (pe_ix (ix_tupK K) (pv 0) pe_int (fun _ _ => rfl)) pa_nil)))) pss_nil)
        (pss_cons (ps_if (pt_cmpR op_eq (pe_ix (ix_tupK K) (pv 0) pe_int (fun _ _ => rfl)) pe_str (nomark _))
          (pss_one (ps_ret (pe_callD D_nought (hr.mono (by first | exact Nat.le_refl _ | omega | decide)) rfl pass0 (pa_cons (pe_ix (ix_tupK K) (pv 0) pe_int (fun _ _ => rfl)) pa_nil)))) pss_nil)
        (pss_one (ps_ret (pe_callD D_goes (hr.mono (by first | exact Nat.le_refl _ | omega | decide)) rfl pass0 (pa_cons (pe_ix (ix_tupK K) (pv 0) pe_int (fun _ _ => rfl)) (pa_cons (pe_ix (ix_tupK K) (pv 0) pe_int (fun _ _ => rfl)) pa_nil))))))), ?_⟩
  obtain ⟨p, us, rfl, hp, ds, eds, hds⟩ := Dp.stm h1
  walk_at "go"
  refine XS.x_ixT hp (XS.atI_get (i := 0) rfl) ?_
  walk_at "go"
  rw [isAb_eq]
  cases a with
  | neg c | con o l | bnd o y c => cases e
  | above s =>
    refine XS.x_yes rfl ?_
    walk_at "go"
    cases eds
    cases hds with
    | cons g1 g2 =>
    refine XS.x_ixT hp (XS.atI_get (i := 1) rfl) ?_
    walk_at "go"
    exact ⟨_, s, rfl, g1, ins, q⟩
  | nought s =>
    refine XS.x_no rfl ?_
    walk_at "go"
    refine XS.x_ixT hp (XS.atI_get (i := 0) rfl) ?_
    walk_at "go"
    rw [isNo_eq]
    refine XS.x_yes rfl ?_
    walk_at "go"
    cases eds
    cases hds with
    | cons g1 g2 =>
    refine XS.x_ixT hp (XS.atI_get (i := 1) rfl) ?_
    walk_at "go"
    exact ⟨_, s, rfl, g1, ins, q⟩
  | goes m s =>
    refine XS.x_no rfl ?_
    walk_at "go"
    refine XS.x_ixT hp (XS.atI_get (i := 0) rfl) ?_
    walk_at "go"
    rw [isNo_eq]
    refine XS.x_no rfl ?_
    walk_at "go"
    cases eds
    cases hds with
    | cons g1 g2 =>
    cases g1
    cases g2 with
    | cons g3 g4 =>
    refine XS.x_ixT hp (XS.atI_get (i := 1) rfl) ?_
    walk_at "go"
    refine XS.x_ixT hp (XS.atI_get (i := 2) rfl) ?_
    walk_at "go"
    obtain ⟨h0, hN⟩ := hgo m s rfl
    exact ⟨_, s, m, rfl, g3, ins, h0, hN, q⟩

abbrev s_turned : Stmt := topS 26
abbrev N_turned : List Str := ["parts", "name", "many"]
abbrev P_turned : List Str := ["parts"]
theorem sc_turned : FnScope N_turned P_turned (defScope s_turned) := ⟨rfl, rfl, rfl, by decide +kernel, rfl, by decide +kernel, by decide +kernel⟩
theorem d_turned (F : FunAt K mg "turned" s_turned P_turned) (Z : Bl mg) : DefAt P w K mg base CX0 1 "turned" P_turned (sp_turned K) := by
  refine F.ok sc_turned (fun vs H Q E h => ?_) (fun f cdv A outer s H vs Q E hr h => ?_)
  · obtain ⟨_, _, rfl, _⟩ := h
    rfl
  obtain ⟨v, ps, rfl, hd, hl, q⟩ := h
  refine ⟨_, (pss_one (ps_ret (pe_callTy (call_tupK K) (by rfl) Z.tuple (by decide +kernel) (pa_cons (pe_lc (own := [("name", 1), ("many", 2)]) (by rfl) sc_turned.nd (pi_tupK K (pv 0)) (blkOk_by (own := [("name", 1), ("many", 2)]) (N := N_turned) (sc := defScope s_turned) (by decide +kernel)) (fun _ _ _ _ _ => (pg_tupK (n := 2) K rfl (pgs_cons (pg_name (i := 1) sc_turned.nd rfl (Or.inl rfl)) (pgs_cons (pg_name (i := 2) sc_turned.nd rfl (Or.inl rfl)) pgs_nil)))) (fun _ _ _ _ _ => pts_nil) (fun _ _ _ _ _ => (pe_tup (pa_cons (pv 1) (pa_cons (pe_un un_neg (pv 2)) pa_nil))))) pa_nil)))), ?_⟩
  cases hd with
  | tup hs ha =>
  rename_i a us
  have hlen := ha.len
  rw [List.length_map] at hlen
  walk_at "go"
  refine XS.x_lcT ps us (fun _ => true) (fun p => prT (p.1, -p.2)) hs hlen (by omega) (fun _ => im_pair _) (fun i p z hi hz H1 Yes No e yes no => ?_) (fun l3 H1 acc _ e1 k1 d1 => ?_)
  · obtain ⟨c, rfl, hc⟩ := (pair_at ha hi hz).pair
    refine XS.x_gtup (e.seqT hc) rfl ?_
    walk_at "go"
    refine ⟨rfl, ?_⟩
    walk_at "go"
    refine ⟨XS.sz (by simp), fun t ht => ?_⟩
    obtain ⟨e1, h5⟩ := XS.newly (o := HO.tup _) ht
    generalize hH1 : upd _ t _ = H2 at e1 h5 ⊢
    exact yes _ _ e1 rfl (Dp.mkPair (p := (p.1, -p.2)) (SqT.of h5))
  · have e3 : (ps.filter fun _ => true).map (fun p => prT (p.1, -p.2)) = (negP ps).map prT := by
      unfold negP
      rw [List.map_map, List.filter_eq_self.mpr (fun _ _ => rfl)]
      rfl
    rw [e3] at d1
    walk_at "go"
    refine XS.x_tupL (SqL.of k1) fun t6 H6 ht6 e6 k6 => ?_
    exact q t6 H6 (e1.trans e6) (.tup (SqT.of k6) (DpAll.same e6 _ _ d1))
abbrev s_contrary : Stmt := topS 22
abbrev N_contrary : List Str := ["one", "kind", "number", "parts"]
abbrev P_contrary : List Str := ["one"]
theorem sc_contrary : FnScope N_contrary P_contrary (defScope s_contrary) := ⟨rfl, rfl, rfl, by decide +kernel, rfl, by decide +kernel, by decide +kernel⟩
theorem d_contrary {nm : List Str} {N : Nat} (hnm : nm.length ≤ 32) (F : FunAt K mg "contrary" s_contrary P_contrary) (Z : Bl mg) (D_turned : DefAt P w K mg base CX0 1 "turned" P_turned (sp_turned K)) : DefAt P w K mg base CX0 2 "contrary" P_contrary (sp_contrary nm N K) := by
  refine F.ok sc_contrary (fun vs H Q E h => ?_) (fun f cdv A outer s H vs Q E hr h => ?_)
  · obtain ⟨_, _, rfl, _⟩ := h
    rfl
  obtain ⟨v, a, rfl, h1, at1, q⟩ := h
  refine ⟨_, (pss_cons (ps_set (i := 1) sc_contrary.nd rfl (Or.inl rfl) (pe_ix (ix_tupK K) (pv 0) pe_int (fun _ _ => rfl)))
        (pss_cons (ps_if (pt_cmpR op_eq (pv 1) pe_str (nomark _))
          (pss_one (ps_ret (pe_ix (ix_tupK K) (pv 0) pe_int (fun _ _ => rfl)))) pss_nil)
        (pss_cons (ps_asg (pe_ix (ix_tupK K) (pv 0) (pe_un un_neg pe_int) (fun _ _ => rfl)) (pg_tupK (n := 2) K rfl (pgs_cons (pg_name (i := 2) sc_contrary.nd rfl (Or.inl rfl)) (pgs_cons (pg_name (i := 3) sc_contrary.nd rfl (Or.inl rfl)) pgs_nil))))
        (pss_cons (ps_if (pt_cmpR op_eq (pv 1) pe_str (nomark _))
          (pss_one (ps_ret (pe_tup (pa_cons (pv 1) (pa_cons (pe_tup (pa_cons (pe_op op_sub pe_int (pv 2)) (pa_cons (pe_callD D_turned (hr.mono (by first | exact Nat.le_refl _ | omega | decide)) rfl pass0 (pa_cons (pv 3) pa_nil)) pa_nil))) pa_nil))))) pss_nil)
        (pss_cons (ps_if (PW.pt (pw_and (pt_cmpR op_eq (pv 1) pe_str (nomark _)) (pw_and1 (pt_cmpR op_eq (pe_ix (ix_tupK K) (pv 0) pe_int (fun _ _ => rfl)) pe_int (nomark _)))))
          (pss_one (ps_ret (pe_tup (pa_cons (pv 1) (pa_cons pe_int (pa_cons (pe_tup (pa_cons (pe_op op_sub pe_int (pv 2)) (pa_cons (pv 3) pa_nil))) pa_nil)))))) pss_nil)
        (pss_one (ps_ret (pe_tup (pa_cons pe_str (pa_cons (pv 0) pa_nil)))))))))), ?_⟩
  obtain ⟨p, us, rfl, hp, ds, eds, hds⟩ := Dp.stm h1
  walk_at "go"
  refine XS.x_ixT hp (XS.atI_get (i := 0) rfl) ?_
  walk_at "go"
  rw [is_not]
  have so_len : ∀ {s : Sm}, Norm s.2 → (∀ p ∈ s.2, p.1 ∈ nm) → s.2.length < 50000 := fun {s} n sub => by
    have := nd_len n.rise.nodup (ys := nm) fun x hx => by
      obtain ⟨p, hp, rfl⟩ := List.mem_map.mp hx
      exact sub p hp
    rw [List.length_map] at this
    omega
  cases at1 with
  | nn h =>
    refine XS.x_yes rfl ?_
    walk_at "go"
    cases eds
    cases hds with
    | cons g1 g2 =>
    refine XS.x_ixT hp (XS.atI_get (i := 1) rfl) ?_
    cases g1 with
    | tup g3 g4 => exact q _ _ (Same.refl _) (.tup g3 g4)
  | ng h =>
    refine XS.x_yes rfl ?_
    walk_at "go"
    cases eds
    cases hds with
    | cons g1 g2 =>
    refine XS.x_ixT hp (XS.atI_get (i := 1) rfl) ?_
    cases g1 with
    | tup g3 g4 => exact q _ _ (Same.refl _) (.tup g3 g4)
  | @above s h =>
    refine XS.x_no rfl ?_
    walk_at "go"
    obtain ⟨p', us', u, ep, hp', hlast, hsum⟩ := end_sum rfl h1
    cases ep
    refine XS.x_ixT hp' hlast ?_
    obtain ⟨ra, rb, rs, rfl, a1, a2, a3⟩ := hsum.sum
    refine XS.x_gtup a1 rfl ?_
    walk_at "go"
    rw [isAb_eq]
    refine XS.x_yes rfl ?_
    walk_at "go"
    refine ⟨_, s.2, rfl, .tup a2 a3, so_len h.no h.sub, fun t H1 e1 d1 => ?_⟩
    cases d1 with
    | tup b1 b2 =>
    walk_at "go"
    refine ⟨XS.sz (by simp), fun t2 ht2 => ?_⟩
    obtain ⟨e2, h2⟩ := XS.newly (o := HO.tup _) ht2
    generalize hGH2 : upd _ t2 _ = H2 at e2 h2 ⊢
    walk_at "go"
    refine ⟨XS.sz (by simp), fun t3 ht3 => ?_⟩
    obtain ⟨e3, h3⟩ := XS.newly (o := HO.tup _) ht3
    exact q t3 _ (e1.trans (e2.trans e3)) (XS.Dp.mkAbove (SqT.of h3) (Dp.mkSum (s := (1 - s.1, negP s.2)) (e3.seqT (SqT.of h2)) ((e2.trans e3).seqT b1) (DpAll.same (e2.trans e3) _ _ b2)))
  | @nought s h =>
    refine XS.x_no rfl ?_
    walk_at "go"
    obtain ⟨p', us', u, ep, hp', hlast, hsum⟩ := end_sum rfl h1
    cases ep
    refine XS.x_ixT hp' hlast ?_
    obtain ⟨ra, rb, rs, rfl, a1, a2, a3⟩ := hsum.sum
    refine XS.x_gtup a1 rfl ?_
    walk_at "go"
    rw [isAb_eq]
    refine XS.x_no rfl ?_
    walk_at "go"
    rw [isGo_eq]
    refine XS.x_no rfl ?_
    walk_at "go"
    refine ⟨XS.sz (by simp), fun t3 ht3 => ?_⟩
    obtain ⟨e3, h3⟩ := XS.newly (o := HO.tup _) ht3
    exact q t3 _ e3 (XS.Dp.mkNeg (SqT.of h3) (Dp.same e3 _ _ h1))
  | @goes m s h =>
    refine XS.x_no rfl ?_
    walk_at "go"
    obtain ⟨p', us', u, ep, hp', hlast, hsum⟩ := end_sum rfl h1
    cases ep
    refine XS.x_ixT hp' hlast ?_
    obtain ⟨ra, rb, rs, rfl, a1, a2, a3⟩ := hsum.sum
    refine XS.x_gtup a1 rfl ?_
    walk_at "go"
    rw [isAb_eq]
    refine XS.x_no rfl ?_
    walk_at "go"
    rw [isGo_eq]
    refine XS.x_yes rfl ?_
    walk_at "go"
    cases eds
    cases hds with
    | cons g1 g2 =>
    cases g1
    refine XS.x_ixT hp (XS.atI_get (i := 1) rfl) ?_
    walk_at "go"
    have q' : ∀ (t : Addr) (H' : Hp), Same H H' → Dp K H' (.ref t) (toD (if m = 2 then .goes 2 (1 - s.1, s.2) else .neg (.goes m s))) → Q (.ref t) H' := q
    refine XS.x_d (fun c => ?_) (fun c => ?_)
    · rw [if_pos c] at q'
      walk_at "go"
      refine ⟨XS.sz (by simp), fun t2 ht2 => ?_⟩
      obtain ⟨e2, h2⟩ := XS.newly (o := HO.tup _) ht2
      generalize hGH2 : upd _ t2 _ = H2 at e2 h2 ⊢
      walk_at "go"
      refine ⟨XS.sz (by simp), fun t3 ht3 => ?_⟩
      obtain ⟨e3, h3⟩ := XS.newly (o := HO.tup _) ht3
      exact q' t3 _ (e2.trans e3) (XS.Dp.mkGoes (SqT.of h3) (Dp.mkSum (s := (1 - s.1, s.2)) (e3.seqT (SqT.of h2)) ((e2.trans e3).seqT a2) (DpAll.same (e2.trans e3) _ _ a3)))
    · rw [if_neg c] at q'
      walk_at "go"
      refine ⟨XS.sz (by simp), fun t3 ht3 => ?_⟩
      obtain ⟨e3, h3⟩ := XS.newly (o := HO.tup _) ht3
      exact q' t3 _ e3 (XS.Dp.mkNeg (SqT.of h3) (Dp.same e3 _ _ h1))
abbrev s_about : Stmt := topS 23
abbrev N_about : List Str := ["one"]
abbrev P_about : List Str := ["one"]
theorem sc_about : FnScope N_about P_about (defScope s_about) := ⟨rfl, rfl, rfl, by decide +kernel, rfl, by decide +kernel, by decide +kernel⟩
theorem d_about (F : FunAt K mg "about" s_about P_about) (Z : Bl mg) : DefAt P w K mg base CX0 1 "about" P_about (sp_about K) := by
  refine F.ok sc_about (fun vs H Q E h => ?_) (fun f cdv A outer s H vs Q E hr h => ?_)
  · obtain ⟨_, _, rfl, _⟩ := h
    rfl
  obtain ⟨v, a, rfl, h1, q⟩ := h
  refine ⟨_, (pss_one (ps_ret (pe_ifExp (pt_cmpR op_eq (pe_ix (ix_tupK K) (pv 0) pe_int (fun _ _ => rfl)) pe_str (nomark _)) (pe_ix (ix_tupK K) (pe_ix (ix_tupK K) (pv 0) pe_int (fun _ _ => rfl)) pe_int (fun _ _ => rfl)) (pe_ix (ix_tupK K) (pv 0) pe_int (fun _ _ => rfl))))), ?_⟩
  obtain ⟨p, us, rfl, hp, ds, eds, hds⟩ := Dp.stm h1
  walk_at "go"
  refine XS.x_ixT hp (XS.atI_get (i := 0) rfl) ?_
  walk_at "go"
  rw [is_not]
  cases a with
  | neg c =>
    refine XS.x_yes rfl ?_
    cases eds
    cases hds with
    | cons g1 g2 =>
    walk_at "go"
    refine XS.x_ixT hp (XS.atI_get (i := 1) rfl) ?_
    walk_at "go"
    obtain ⟨p2, us2, rfl, hp2, _⟩ := Dp.stm g1
    refine XS.x_ixT hp2 (XS.atI_get (i := 0) rfl) ?_
    exact q
  | above _ | nought _ | goes _ _ | con _ _ | bnd _ _ _ =>
    refine XS.x_no rfl ?_
    walk_at "go"
    refine XS.x_ixT hp (XS.atI_get (i := 0) rfl) ?_
    exact q
abbrev s_sum_of : Stmt := topS 24
abbrev N_sum_of : List Str := ["one"]
abbrev P_sum_of : List Str := ["one"]
theorem sc_sum_of : FnScope N_sum_of P_sum_of (defScope s_sum_of) := ⟨rfl, rfl, rfl, by decide +kernel, rfl, by decide +kernel, by decide +kernel⟩
theorem d_sum_of (F : FunAt K mg "sum_of" s_sum_of P_sum_of) (Z : Bl mg) : DefAt P w K mg base CX0 1 "sum_of" P_sum_of (sp_sum_of K) := by
  refine F.ok sc_sum_of (fun vs H Q E h => ?_) (fun f cdv A outer s H vs Q E hr h => ?_)
  · obtain ⟨_, _, rfl, _⟩ := h
    rfl
  obtain ⟨v, a, rfl, h1, e, q⟩ := h
  refine ⟨_, (pss_cons (ps_if (pt_cmpR op_eq (pe_ix (ix_tupK K) (pv 0) pe_int (fun _ _ => rfl)) pe_str (nomark _))
          (pss_one (ps_ret (pe_ix (ix_tupK K) (pe_ix (ix_tupK K) (pv 0) pe_int (fun _ _ => rfl)) (pe_un un_neg pe_int) (fun _ _ => rfl)))) pss_nil)
        (pss_one (ps_ret (pe_ix (ix_tupK K) (pv 0) (pe_un un_neg pe_int) (fun _ _ => rfl))))), ?_⟩
  obtain ⟨p, us, rfl, hp, ds, eds, hds⟩ := Dp.stm h1
  walk_at "go"
  refine XS.x_ixT hp (XS.atI_get (i := 0) rfl) ?_
  walk_at "go"
  rw [is_not]
  cases a with
  | neg c =>
    refine XS.x_yes rfl ?_
    cases eds
    cases hds with
    | cons g1 g2 =>
    walk_at "go"
    refine XS.x_ixT hp (XS.atI_get (i := 1) rfl) ?_
    walk_at "go"
    obtain ⟨p', us', u, rfl, hp', hlast, hsum⟩ := end_sum e g1
    refine XS.x_ixT hp' hlast ?_
    exact q u hsum
  | above _ | nought _ | goes _ _ =>
    refine XS.x_no rfl ?_
    walk_at "go"
    obtain ⟨p', us', u, ep, hp', hlast, hsum⟩ := end_sum rfl h1
    cases ep
    refine XS.x_ixT hp' hlast ?_
    exact q u hsum
  | con _ _ | bnd _ _ _ => cases e
abbrev s_decides : Stmt := topS 31
abbrev N_decides : List Str := ["kind", "part"]
abbrev P_decides : List Str := ["kind", "part"]
theorem sc_decides : FnScope N_decides P_decides (defScope s_decides) := ⟨rfl, rfl, rfl, by decide +kernel, rfl, by decide +kernel, by decide +kernel⟩
theorem d_decides {aT aF aO : Addr} (Ct : Ct K w mg aT aF aO) (F : FunAt K mg "decides" s_decides P_decides) (Z : Bl mg) : DefAt P w K mg base CX0 1 "decides" P_decides (sp_decides K) := by
  refine F.ok sc_decides (fun vs H Q E h => ?_) (fun f cdv A outer s H vs Q E hr h => ?_)
  · obtain ⟨_, _, _, rfl, _⟩ := h
    rfl
  obtain ⟨v, a, o, rfl, h1, q⟩ := h
  refine ⟨_, (pss_one (ps_ret (pe_cmpR (op_eqM K hr.units) (pv 1) (pe_ifExp (pt_cmpR op_eq (pv 0) pe_str (nomark _)) (pe_glob (v := .ref _) rfl Ct.c_FALSE rfl) (pe_glob (v := .ref _) rfl Ct.c_TRUE rfl)) (nomark _)))), ?_⟩
  walk_at "go"
  cases o with
  | true =>
    refine XS.x_yes (by decide +kernel) ?_
    walk_at "go"
    exact XS.x_eqC (o := false) h1 (Ct.d_FALSE _) q
  | false =>
    refine XS.x_no (by decide +kernel) ?_
    walk_at "go"
    exact XS.x_eqC (o := true) h1 (Ct.d_TRUE _) q

abbrev s_joined : Stmt := topS 32
abbrev N_joined : List Str := ["kind", "parts", "found", "part"]
abbrev P_joined : List Str := ["kind", "parts"]
theorem sc_joined : FnScope N_joined P_joined (defScope s_joined) := ⟨rfl, rfl, rfl, by decide +kernel, rfl, by decide +kernel, by decide +kernel⟩
theorem d_joined (F : FunAt K mg "joined" s_joined P_joined) (Z : Bl mg) (D_decides : DefAt P w K mg base CX0 1 "decides" P_decides (sp_decides K)) : DefAt P w K mg base CX0 2 "joined" P_joined (sp_joined K) := by
  refine F.ok sc_joined (fun vs H Q E h => ?_) (fun f cdv A outer s H vs Q E hr h => ?_)
  · obtain ⟨_, _, _, _, rfl, _⟩ := h
    rfl
  obtain ⟨p, us, l, o, rfl, hs, ha, hl, q⟩ := h
  refine ⟨_, (pss_cons (ps_set (i := 2) sc_joined.nd rfl (Or.inl rfl) (pe_lst pa_nil))
        (pss_cons (ps_for PassesOwn.never rfl (pi_seqB K (pv 1)) (pg_name (i := 3) sc_joined.nd rfl (Or.inl rfl))
          (pss_cons (ps_if (pt_val (pe_callD D_decides (hr.mono (by first | exact Nat.le_refl _ | omega | decide)) rfl pass0 (pa_cons (pv 0) (pa_cons (pv 3) pa_nil))))
          (pss_one (ps_ret (pv 3))) pss_nil)
        (pss_one (ps_if (pt_cmpR op_eq (pe_ix (ix_tupK K) (pv 3) pe_int (fun _ _ => rfl)) (pv 0) (nomark _))
          (pss_one (ps_expr (pe_bm PySem.F.plainAttrs_list PySem.F.slot_list_extend PySem.F.type_list_extend (mt_extT K) (pv 2) (pa_cons (pe_ix (ix_tupK K) (pv 3) pe_int (fun _ _ => rfl)) pa_nil)))) (pss_one (ps_expr (pe_bm PySem.F.plainAttrs_list PySem.F.slot_list_append PySem.F.type_list_append mt_append (pv 2) (pa_cons (pv 3) pa_nil))))))))
        (pss_cons (ps_if (pt_cmpR op_eq (pe_callB (call_lenK K) (by rfl) Z.len PySem.boot_len (pa_cons (pv 2) pa_nil)) pe_int (nomark _))
          (pss_one (ps_ret (pe_ix (ix_listK K) (pv 2) pe_int (fun _ _ => rfl)))) pss_nil)
        (pss_one (ps_ret (pe_tup (pa_cons (pv 0) (pa_cons (pe_callTy (call_tupK K) (by rfl) Z.tuple (by decide +kernel) (pa_cons (pv 2) pa_nil)) pa_nil)))))))), ?_⟩
  have l1 := ha.len
  rw [List.length_map] at l1
  walk_at "go"
  refine ⟨XS.sz (by simp), fun r1 hr1 => ?_⟩
  obtain ⟨e1, k1⟩ := XS.newly (o := HO.lst _) hr1
  generalize hGH1 : upd _ r1 _ = H1 at e1 k1 ⊢
  walk_at "go"
  have fl : ∀ i, ((l.take i).flatMap (flat1 o)).length ≤ (l.flatMap (flat1 o)).length := fun i => by
    conv => rhs; rw [← List.take_append_drop i l]
    rw [List.flatMap_append, List.length_append]
    omega
  have imA : ∀ (m : List Stm), ∀ d ∈ m.map toD, Im d := fun m d hd => by
    obtain ⟨z, _, rfl⟩ := List.mem_map.mp hd
    exact im_stm z
  refine ⟨.ref p, rfl, XS.x_forB hs (fun i σ H' => ∃ (y3 : Option V) (acc : List V), σ = [some (.str (conW o)), some (.ref p), some (.ref r1), y3] ∧ Same H H' ∧ H' r1 = some (.lst acc) ∧ DpAll K H' acc (((l.take i).flatMap (flat1 o)).map toD) ∧ (l.take i).any (decB o) = false)
    ⟨none, [], rfl, e1, k1, .nil, rfl⟩ (fun i σ H' ⟨_, _, _, e, _⟩ => e) ?_ ?_⟩
  · rintro i u σ H' hi ⟨y3, acc, rfl, e2, k2, d2, nd2⟩
    have hlt : i < l.length := by rw [← l1]; exact (List.getElem?_eq_some_iff.mp hi).1
    have hc : l[i]? = some l[i] := List.getElem?_eq_getElem hlt
    generalize l[i] = a at hc
    obtain ⟨dd, hdd, du⟩ := (DpAll.same e2 _ _ ha).getV hi
    rw [List.getElem?_map, hc] at hdd
    cases hdd
    walk_at "go"
    refine ⟨u, a, o, rfl, du, ?_⟩
    walk_at "go"
    cases hdec : decB o a with
    | true =>
      walk_at "go"
      have ej : joinB o l = a := by
        unfold joinB
        rw [if_pos (List.any_eq_true.mpr ⟨a, List.mem_of_getElem? hc, hdec⟩)]
        exact (decB_eq hdec).symm
      obtain ⟨pu, us2, rfl, _⟩ := Dp.stm du
      rw [ej] at q
      exact q pu H' e2 du
    | false =>
      walk_at "go"
      have nd3 : (l.take (i + 1)).any (decB o) = false := by
        rw [XS.take_more hc, List.any_append, nd2]
        simp [hdec]
      have la := d2.len
      rw [List.length_map] at la
      have fi := fl i
      have fi1 := fl (i + 1)
      rw [flat_take o hc, List.length_append] at fi1
      obtain ⟨pu, us2, rfl, hpu, ds, eds, hds⟩ := Dp.stm du
      refine XS.x_ixT hpu (XS.atI_get (i := 0) rfl) ?_
      walk_at "go"
      refine XS.x_d (fun c => ?_) (fun c => ?_)
      · obtain ⟨m, rfl⟩ := head_con c
        have ef : flat1 o (.con o m) = m := by show (if o = o then m else _) = m; rw [if_pos rfl]
        cases eds
        cases hds with
        | cons g1 g2 =>
        rw [toDs_map] at g1
        cases g1 with
        | tup hs2 ha2 =>
        have l2 := ha2.len
        rw [List.length_map] at l2
        walk_at "go"
        refine XS.x_tyL' (XS.x_tyL k2) ?_
        walk_at "go"
        refine XS.x_ixT hpu (XS.atI_get (i := 1) rfl) ?_
        walk_at "go"
        have kk : ∀ ys, XS.Keeps H' (upd H' r1 (.lst ys)) := fun ys => keeps_lst k2
        refine ⟨r1, _, acc, _, rfl, rfl, k2, hs2, Nat.le_trans (by rw [ef] at fi1; omega) (by decide : 1000000 ≤ sizeLine), ?_⟩
        walk_at "go"
        refine ⟨_, _, rfl, XS.same_mut e2 hr1, upd_same, ?_, nd3⟩
        rw [flat_take o hc, ef, List.map_append]
        exact (DpAll.keeps (kk _) _ _ (imA _) d2).app (DpAll.keeps (kk _) _ _ (imA _) ha2)
      · have ef : flat1 o a = [a] := by
          cases a with
          | con o' m =>
            show (if o' = o then m else [.con o' m]) = _
            rw [if_neg (fun e => c (by subst e; rfl))]
          | _ => rfl
        rw [ef] at fi1
        walk_at "go"
        refine XS.x_tyL' (XS.x_tyL k2) ?_
        walk_at "go"
        have kk := keeps_lst (ys := acc ++ [.ref pu]) k2
        refine XS.x_app k2 (Nat.lt_of_le_of_lt (by simp at fi1; omega : acc.length ≤ 1000000) (by decide)) ?_
        refine ⟨_, _, rfl, XS.same_mut e2 hr1, upd_same, ?_, nd3⟩
        rw [flat_take o hc, ef, List.map_append]
        exact (DpAll.keeps kk _ _ (imA _) d2).app (.one (Dp.keeps kk _ _ (im_stm _) du))
  · rintro σ H' ⟨y3, acc, rfl, e2, k2, d2, nd2⟩
    rw [l1, List.take_length] at d2 nd2
    have la := d2.len
    rw [List.length_map] at la
    walk_at "go"
    refine XS.x_lenL (SqL.of k2) ?_
    walk_at "go"
    have ej : joinB o l = wrapB o (l.flatMap (flat1 o)) := by
      unfold joinB
      rw [if_neg (by rw [nd2]; exact Bool.false_ne_true)]
    rw [ej] at q
    refine XS.x_d (fun c => ?_) (fun c => ?_)
    · obtain ⟨x, hx⟩ : ∃ x, l.flatMap (flat1 o) = [x] := List.length_eq_one_iff.mp (by omega)
      rw [hx] at d2 q
      cases d2 with
      | cons g1 g2 =>
      cases g2
      walk_at "go"
      refine XS.x_ixL (SqL.of k2) (XS.atI_get (i := 0) rfl) ?_
      obtain ⟨pu, us2, rfl, _⟩ := Dp.stm g1
      exact q pu H' e2 g1
    · walk_at "go"
      refine XS.x_tupL (SqL.of k2) fun t6 H6 ht6 e6 k6 => ?_
      walk_at "go"
      refine ⟨XS.sz (by simp), fun t7 ht7 => ?_⟩
      obtain ⟨e7, k7⟩ := XS.newly (o := HO.tup _) ht7
      rw [wrapB_not o (by omega)] at q
      exact q t7 _ (e2.trans (e6.trans e7)) (XS.Dp.mkCon (SqT.of k7) rfl (e7.seqT (SqT.of k6)) (DpAll.same (e6.trans e7) _ _ d2))

abbrev s_opposite : Stmt := topS 33
abbrev N_opposite : List Str := ["statement", "kind", "parts", "part"]
abbrev P_opposite : List Str := ["statement"]
theorem sc_opposite : FnScope N_opposite P_opposite (defScope s_opposite) := ⟨rfl, rfl, rfl, by decide +kernel, rfl, by decide +kernel, by decide +kernel⟩
theorem opp_all {nm : List Str} {N : Nat} {aT aF aO : Addr} (Ct : Ct K w mg aT aF aO) (F : FunAt K mg "opposite" s_opposite P_opposite) (Z : Bl mg) (D_contrary : DefAt P w K mg base CX0 2 "contrary" P_contrary (sp_contrary nm N K)) : ∀ n, DefAt P w K mg base CX0 (n + 3) "opposite" P_opposite (sp_opposite nm N n K) := by
  intro n
  have base0 : ∀ n, (∀ m, n = m + 1 → DefAt P w K mg base CX0 (m + 3) "opposite" P_opposite (sp_opposite nm N m K)) → DefAt P w K mg base CX0 (n + 3) "opposite" P_opposite (sp_opposite nm N n K) := by
    intro n ih
    have D_opposite : DefAt P w K mg base CX0 (n + 2) "opposite" P_opposite (fun vs H Q E => ∃ m, n = m + 1 ∧ sp_opposite nm N m K vs H Q E) := by
      cases n with
      | zero => exact F.never fun vs H Q E ⟨m, e, _⟩ => by omega
      | succ m => exact (ih m rfl).imp fun vs H Q E ⟨m', e, h⟩ => by
                    obtain rfl : m = m' := by omega
                    exact h
    refine F.ok sc_opposite (fun vs H Q E h => ?_) (fun f cdv A outer s H vs Q E hr h => ?_)
    · obtain ⟨_, _, rfl, _⟩ := h
      rfl
    obtain ⟨v, a, rfl, h1, ft, hlv, q⟩ := h
    refine ⟨_, (pss_cons (ps_set (i := 1) sc_opposite.nd rfl (Or.inl rfl) (pe_ix (ix_tupK K) (pv 0) pe_int (fun _ _ => rfl)))
        (pss_cons (ps_if (pt_cmpR (op_knin K w) (pv 1) (pe_glob (v := .ref _) rfl Ct.c_OTHER rfl) (by rfl))
          (pss_one (ps_ret (pe_callD D_contrary (hr.mono (by first | exact Nat.le_refl _ | omega | decide)) rfl pass0 (pa_cons (pv 0) pa_nil)))) pss_nil)
        (pss_cons (ps_set (i := 2) sc_opposite.nd rfl (Or.inl rfl) (pe_lst pa_nil))
        (pss_cons (ps_for PassesOwn.never rfl (pi_tupK K (pe_ix (ix_tupK K) (pv 0) pe_int (fun _ _ => rfl))) (pg_name (i := 3) sc_opposite.nd rfl (Or.inl rfl))
          (pss_one (ps_expr (pe_bm PySem.F.plainAttrs_list PySem.F.slot_list_append PySem.F.type_list_append mt_append (pv 2) (pa_cons (pe_callD D_opposite (hr.mono (by first | exact Nat.le_refl _ | omega | decide)) rfl pass0 (pa_cons (pv 3) pa_nil)) pa_nil)))))
        (pss_one (ps_ret (pe_tup (pa_cons (pe_ix (ix_kdictK K w) (pe_glob (v := .ref _) rfl Ct.c_OTHER rfl) (pv 1) (fun _ _ => rfl)) (pa_cons (pe_callTy (call_tupK K) (by rfl) Z.tuple (by decide +kernel) (pa_cons (pv 2) pa_nil)) pa_nil))))))))), ?_⟩
    obtain ⟨p, us, rfl, hp, ds, eds, hds⟩ := Dp.stm h1
    walk_at "go"
    refine XS.x_ixT hp (XS.atI_get (i := 0) rfl) ?_
    walk_at "go"
    refine XS.x_knin (Ct.has a) ?_
    walk_at "go"
    cases hcon : isCon a with
    | false =>
      walk_at "go"
      have at1 : Atom nm N a := by
        rcases ft with rfl | rfl | ft
        · cases hcon
        · cases hcon
        · cases ft with
          | atom h _ => exact h
          | con _ _ => cases hcon
      refine ⟨_, a, rfl, h1, at1, fun t H1 e1 d1 => ?_⟩
      rw [← opT_atom at1] at d1
      exact q t H1 e1 d1
    | true =>
      walk_at "go"
      cases a with
      | above | nought | goes | neg | bnd => cases hcon
      | con o l =>
      cases eds
      cases hds with
      | cons g1 g2 =>
      rw [toDs_map] at g1
      cases g1 with
      | tup hs ha =>
      have l1 := ha.len
      rw [List.length_map] at l1
      have el : lv (.con o l) = lvs l := rfl
      have hch : ∀ c ∈ l, ∃ m, n = m + 1 ∧ FT (Atom nm N) m c ∧ lv c ≤ 100000 := fun c hc => by
        rcases ft with ft | ft | ft
        · cases ft; exact absurd hc (by simp)
        · cases ft; exact absurd hc (by simp)
        · cases ft with
          | atom _ e => cases e
          | @con _ _ m hl hm => exact ⟨m, rfl, .inr (.inr (hm c hc)), by have := lv_in hc; omega⟩
      have llen : l.length ≤ 100000 := by
        rcases ft with ft | ft | ft
        · cases ft; simp
        · cases ft; simp
        · cases ft with
          | atom _ e => cases e
          | @con _ _ m hl hm =>
            have := lvs_len (fun a h => atom_lv h) hm
            omega
      refine ⟨XS.sz (by simp), fun r1 hr1 => ?_⟩
      obtain ⟨e1, k1⟩ := XS.newly (o := HO.lst _) hr1
      generalize hGH1 : upd _ r1 _ = H1 at e1 k1 ⊢
      walk_at "go"
      refine XS.x_ixT (e1.seqT hp) (XS.atI_get (i := 1) rfl) ?_
      refine XS.x_forT (e1.seqT hs) (fun i σ H' => ∃ (y3 : Option V) (acc : List V), σ = [some (.ref p), some (.str (headW (Stm.con o l))), some (.ref r1), y3] ∧ Same H H' ∧ H' r1 = some (.lst acc) ∧ DpAll K H' acc (((l.take i).map opT).map toD)) ⟨none, [], rfl, e1, k1, .nil⟩ (fun i σ H' _ ⟨_, _, _, e, _⟩ => e.seqT hs) ?_ ?_
      · rintro i u σ H' hi ⟨y3, acc, rfl, e2, k2, d2⟩
        have hlt : i < l.length := by rw [← l1]; exact (List.getElem?_eq_some_iff.mp hi).1
        have hc : l[i]? = some l[i] := List.getElem?_eq_getElem hlt
        generalize l[i] = c at hc
        have hmem := List.mem_of_getElem? hc
        obtain ⟨dd, hdd, du⟩ := (DpAll.same e2 _ _ ha).getV hi
        rw [List.getElem?_map, hc] at hdd
        cases hdd
        obtain ⟨m, em, ftc, lvc⟩ := hch c hmem
        walk_at "go"
        refine XS.x_tyL' (XS.x_tyL k2) ?_
        walk_at "go"
        refine ⟨m, em, u, c, rfl, du, ftc, lvc, fun t5 H5 e5 d5 => ?_⟩
        walk_at "go"
        have k5 := e5 _ _ k2
        have kk := keeps_lst (ys := acc ++ [.ref t5]) k5
        have la := d2.len
        rw [List.length_map, List.length_map, List.length_take] at la
        refine XS.x_app k5 (Nat.lt_of_le_of_lt (by omega : acc.length ≤ 100000) (by decide)) ?_
        refine ⟨_, acc ++ [.ref t5], rfl, XS.same_mut (e2.trans e5) hr1, upd_same, ?_⟩
        rw [XS.take_more hc, List.map_append, List.map_append]
        refine (DpAll.keeps kk _ _ (fun d hd => ?_) (DpAll.same e5 _ _ d2)).app (.one (Dp.keeps kk _ _ (im_stm _) d5))
        obtain ⟨z, _, rfl⟩ := List.mem_map.mp hd
        exact im_stm z
      · rintro σ H' ⟨y3, acc, rfl, e2, k2, d2⟩
        rw [l1, List.take_length] at d2
        walk_at "go"
        refine XS.x_kget (Ct.get o) ?_
        walk_at "go"
        refine XS.x_tupL (SqL.of k2) fun t6 H6 ht6 e6 k6 => ?_
        walk_at "go"
        refine ⟨XS.sz (by simp), fun t7 ht7 => ?_⟩
        obtain ⟨e7, k7⟩ := XS.newly (o := HO.tup _) ht7
        have eo : opT (.con o l) = .con (!o) (l.map opT) := by show Stm.con (!o) (opTs l) = _; rw [opTs_map]
        rw [eo] at q
        exact q t7 _ (e2.trans (e6.trans e7)) (XS.Dp.mkCon (SqT.of k7) rfl (e7.seqT (SqT.of k6)) (DpAll.same (e6.trans e7) _ _ d2))
  induction n with
  | zero => exact base0 0 fun m e => by omega
  | succ n ih => exact base0 (n + 1) fun m e => by
                   obtain rfl : n = m := by omega
                   exact ih
abbrev s_changed : Stmt := topS 34
abbrev N_changed : List Str := ["statement", "change", "kind", "parts", "part"]
abbrev P_changed : List Str := ["statement", "change"]
theorem sc_changed : FnScope N_changed P_changed (defScope s_changed) := ⟨rfl, rfl, rfl, by decide +kernel, rfl, by decide +kernel, by decide +kernel⟩
theorem chg_all {p q : Stm → Prop} (hp : ∀ a, p a → isCon a = false ∧ 0 < lv a) (hq : ∀ a, q a → 0 < lv a) {g : Addr} {fdg : FuncData} {psg : List Str} {kg0 : Nat} {aT aF aO : Addr} (Ct : Ct K w mg aT aF aO) (F : FunAt K mg "changed" s_changed P_changed) (Z : Bl mg)
    (D_decides : DefAt P w K mg base CX0 1 "decides" P_decides (sp_decides K)) (D_joined : DefAt P w K mg base CX0 2 "joined" P_joined (sp_joined K)) (Fg : FnOk P w K mg base CX0 kg0 g fdg psg (sp_change p q K)) (hk0 : kg0 ≤ 4) (kg : PySem.W.keepIn K (.ref g) = true) (bg : Binds K fdg psg []) :
    ∀ n, DefAt P w K mg base CX0 (n + 5) "changed" P_changed (sp_changed p q g n K) := by
  intro n
  have base0 : ∀ n, (∀ m, n = m + 1 → DefAt P w K mg base CX0 (m + 5) "changed" P_changed (sp_changed p q g m K)) → DefAt P w K mg base CX0 (n + 5) "changed" P_changed (sp_changed p q g n K) := by
    intro n ih
    have D_changed : DefAt P w K mg base CX0 (n + 4) "changed" P_changed (fun vs H Q E => ∃ m, n = m + 1 ∧ sp_changed p q g m K vs H Q E) := by
      cases n with
      | zero => exact F.never fun vs H Q E ⟨m, e, _⟩ => by omega
      | succ m => exact (ih m rfl).imp fun vs H Q E ⟨m', e, h⟩ => by
                    obtain rfl : m = m' := by omega
                    exact h
    refine F.ok sc_changed (fun vs H Q E h => ?_) (fun f cdv A outer s H vs Q E hr h => ?_)
    · obtain ⟨_, _, rfl, _⟩ := h
      rfl
    obtain ⟨v, a, rfl, h1, ft, hlv, q1⟩ := h
    refine ⟨_, (pss_cons (ps_set (i := 2) sc_changed.nd rfl (Or.inl rfl) (pe_ix (ix_tupK K) (pv 0) pe_int (fun _ _ => rfl)))
        (pss_cons (ps_if (pt_cmpR (op_knin K w) (pv 2) (pe_glob (v := .ref _) rfl Ct.c_OTHER rfl) (by rfl))
          (pss_one (ps_ret (pe_callL (i := 1) Fg (hr.mono (by first | exact Nat.le_refl _ | omega | decide)) rfl (.inl rfl) kg bg .nil pass0 (pa_cons (pv 0) pa_nil)))) pss_nil)
        (pss_cons (ps_set (i := 3) sc_changed.nd rfl (Or.inl rfl) (pe_lst pa_nil))
        (pss_cons (ps_for PassesOwn.never rfl (pi_tupK K (pe_ix (ix_tupK K) (pv 0) pe_int (fun _ _ => rfl))) (pg_name (i := 4) sc_changed.nd rfl (Or.inl rfl))
          (pss_cons (ps_set (i := 4) sc_changed.nd rfl (Or.inl rfl) (pe_callD D_changed (hr.mono (by first | exact Nat.le_refl _ | omega | decide)) rfl pass0 (pa_cons (pv 4) (pa_cons (pv 1) pa_nil))))
        (pss_cons (ps_if (pt_val (pe_callD D_decides (hr.mono (by first | exact Nat.le_refl _ | omega | decide)) rfl pass0 (pa_cons (pv 2) (pa_cons (pv 4) pa_nil))))
          (pss_one (ps_ret (pv 4))) pss_nil)
        (pss_one (ps_expr (pe_bm PySem.F.plainAttrs_list PySem.F.slot_list_append PySem.F.type_list_append mt_append (pv 3) (pa_cons (pv 4) pa_nil)))))))
        (pss_one (ps_ret (pe_callD D_joined (hr.mono (by first | exact Nat.le_refl _ | omega | decide)) rfl pass0 (pa_cons (pv 2) (pa_cons (pv 3) pa_nil))))))))), ?_⟩
    obtain ⟨pa, us, rfl, hpa, ds, eds, hds⟩ := Dp.stm h1
    walk_at "go"
    refine XS.x_ixT hpa (XS.atI_get (i := 0) rfl) ?_
    walk_at "go"
    refine XS.x_knin (Ct.has a) ?_
    walk_at "go"
    cases hcon : isCon a with
    | false =>
      walk_at "go"
      have at1 : p a := by
        rcases ft with rfl | rfl | ft
        · cases hcon
        · cases hcon
        · cases ft with
          | atom h _ => exact h
          | con _ _ => cases hcon
      refine ⟨rfl, ?_⟩
      walk_at "go"
      refine ⟨_, a, rfl, h1, at1, fun t b H1 e1 fb tb lb d1 => ?_⟩
      have := (hp a at1).2
      exact q1 t b H1 e1 (fb.mono (by omega)) tb (by omega) d1
    | true =>
      walk_at "go"
      cases a with
      | above | nought | goes | neg | bnd => cases hcon
      | con o l =>
      cases eds
      cases hds with
      | cons g1 g2 =>
      rw [toDs_map] at g1
      cases g1 with
      | tup hs ha =>
      have l1 := ha.len
      rw [List.length_map] at l1
      have el : lv (.con o l) = lvs l := rfl
      have hch : ∀ c ∈ l, ∃ m, n = m + 1 ∧ FT p m c ∧ lv c ≤ 100000 := fun c hc => by
        rcases ft with ft | ft | ft
        · cases ft; exact absurd hc (by simp)
        · cases ft; exact absurd hc (by simp)
        · cases ft with
          | atom _ e => cases e
          | @con _ _ m hl hm => exact ⟨m, rfl, .inr (.inr (hm c hc)), by have := lv_in hc; omega⟩
      have llen : l.length ≤ lvs l := by
        rcases ft with ft | ft | ft
        · cases ft; simp
        · cases ft; simp
        · cases ft with
          | atom _ e => cases e
          | @con _ _ m hl hm => exact lvs_len (fun a h => (hp a h).2) hm
      have hlv' : lvs l ≤ 100000 := hlv
      refine ⟨XS.sz (by simp), fun r1 hr1 => ?_⟩
      obtain ⟨e1, k1⟩ := XS.newly (o := HO.lst _) hr1
      generalize hGH1 : upd _ r1 _ = H1 at e1 k1 ⊢
      walk_at "go"
      refine XS.x_ixT (e1.seqT hpa) (XS.atI_get (i := 1) rfl) ?_
      refine XS.x_forT (e1.seqT hs) (fun i σ H' => ∃ (y4 : Option V) (acc : List V) (bs : List Stm), σ = [some (.ref pa), some (.ref g), some (.str (headW (Stm.con o l))), some (.ref r1), y4] ∧ Same H H' ∧ H' r1 = some (.lst acc) ∧ DpAll K H' acc (bs.map toD) ∧ Rl q n (l.take i) bs) ⟨none, [], [], rfl, e1, k1, .nil, Rl.nil⟩ (fun i σ H' _ ⟨_, _, _, _, e, _⟩ => e.seqT hs) ?_ ?_
      · rintro i u σ H' hi ⟨y4, acc, bs, rfl, e2, k2, d2, rl⟩
        have hlt : i < l.length := by rw [← l1]; exact (List.getElem?_eq_some_iff.mp hi).1
        have hc : l[i]? = some l[i] := List.getElem?_eq_getElem hlt
        generalize l[i] = c at hc
        have hmem := List.mem_of_getElem? hc
        obtain ⟨dd, hdd, du⟩ := (DpAll.same e2 _ _ ha).getV hi
        rw [List.getElem?_map, hc] at hdd
        cases hdd
        obtain ⟨m, em, ftc, lvc⟩ := hch c hmem
        walk_at "go"
        refine ⟨m, em, u, c, rfl, du, ftc, lvc, fun t5 b H5 e5 fb tb lb d5 => ?_⟩
        walk_at "go"
        refine ⟨_, b, o, rfl, d5, ?_⟩
        walk_at "go"
        cases hdec : decB o b with
        | true =>
          walk_at "go"
          have eb := decB_eq hdec
          subst eb
          refine q1 t5 (.con (!o) []) H5 (e2.trans e5) ?_ (fun f => ?_) (Nat.zero_le _) d5
          · cases o
            · exact .inl rfl
            · exact .inr (.inl rfl)
          · have ec : tru f c = !o := by rw [← tb f]; cases o <;> rfl
            have eo : tru f (.con (!o) []) = !o := by cases o <;> rfl
            rw [eo, tru_con]
            cases o with
            | true =>
              have : l.all (tru f) = false := Bool.eq_false_iff.mpr fun t => by rw [List.all_eq_true.mp t c hmem] at ec; cases ec
              simp [this]
            | false =>
              have : l.any (tru f) = true := List.any_eq_true.mpr ⟨c, hmem, ec⟩
              simp [this]
        | false =>
          walk_at "go"
          have k5 := e5 _ _ k2
          refine XS.x_tyL' (XS.x_tyL k5) ?_
          walk_at "go"
          have kk := keeps_lst (ys := acc ++ [.ref t5]) k5
          have la := d2.len
          rw [List.length_map, rl.len, List.length_take] at la
          refine XS.x_app k5 (Nat.lt_of_le_of_lt (by omega : acc.length ≤ 100000) (by decide)) ?_
          refine ⟨_, acc ++ [.ref t5], bs ++ [b], rfl, XS.same_mut (e2.trans e5) hr1, upd_same, ?_, ?_⟩
          · rw [List.map_append]
            refine (DpAll.keeps kk _ _ (fun d hd => ?_) (DpAll.same e5 _ _ d2)).app (.one (Dp.keeps kk _ _ (im_stm _) d5))
            obtain ⟨z, _, rfl⟩ := List.mem_map.mp hd
            exact im_stm z
          · rw [XS.take_more hc]
            exact rl.more (by rw [em]; exact fb) tb lb
      · rintro σ H' ⟨y4, acc, bs, rfl, e2, k2, d2, rl⟩
        rw [l1, List.take_length] at rl
        walk_at "go"
        have fl := flat_len hq (o := o) rl.ft
        have l2 := rl.lv
        have l3 := rl.len
        refine ⟨r1, acc, bs, o, rfl, .inl (SqL.of k2), d2, by omega, fun t H5 e5 d5 => ?_⟩
        refine q1 t (joinB o bs) H5 (e2.trans e5) (joinB_ft rl.ft) (fun f => by rw [joinB_tru, rl.con]) ?_ d5
        have := joinB_lv o bs
        omega
  induction n with
  | zero => exact base0 0 fun m e => by omega
  | succ n ih => exact base0 (n + 1) fun m e => by
                   obtain rfl : n = m := by omega
                   exact ih
abbrev s_depth : Stmt := topS 101
abbrev N_depth : List Str := ["statement", "deepest", "part"]
abbrev P_depth : List Str := ["statement"]
theorem sc_depth : FnScope N_depth P_depth (defScope s_depth) := ⟨rfl, rfl, rfl, by decide +kernel, rfl, by decide +kernel, by decide +kernel⟩
theorem depth_step {n : Nat} (F : FunAt K mg "depth" s_depth P_depth) (Z : Bl mg) (Z2 : Bl2 mg) (D_parts_within : DefAt P w K mg base CX0 1 "parts_within" P_parts_within (sp_parts K))
    (D_depth : DefAt P w K mg base CX0 (n + 1) "depth" P_depth (sp_depth n K)) : DefAt P w K mg base CX0 (n + 2) "depth" P_depth (sp_depth (n + 1) K) := by
  refine F.ok sc_depth (fun vs H Q E h => ?_) (fun f cdv A outer s H vs Q E hr h => ?_)
  · obtain ⟨_, _, rfl, _⟩ := h
    rfl
  obtain ⟨v, a, rfl, h1, hn, q⟩ := h
  refine ⟨_, (pss_cons (ps_set (i := 1) sc_depth.nd rfl (Or.inl rfl) pe_int)
        (pss_cons (ps_for PassesOwn.never rfl (pi_tupK K (pe_callD D_parts_within (hr.mono (by first | exact Nat.le_refl _ | omega | decide)) rfl pass0 (pa_cons (pv 0) pa_nil))) (pg_name (i := 2) sc_depth.nd rfl (Or.inl rfl))
          (pss_one (ps_set (i := 1) sc_depth.nd rfl (Or.inl rfl) (pe_callB (call_max2 rfl) (by rfl) Z2.max (by decide +kernel) (pa_cons (pv 1) (pa_cons (pe_callD D_depth (hr.mono (by first | exact Nat.le_refl _ | omega | decide)) rfl pass0 (pa_cons (pv 2) pa_nil)) pa_nil))))))
        (pss_one (ps_ret (pe_op op_add (pv 1) pe_int))))), ?_⟩
  walk_at "go"
  refine ⟨v, a, rfl, h1, fun t H1 e1 d1 => ?_⟩
  cases d1 with
  | tup hs ha =>
  have l1 := ha.len
  rw [List.length_map] at l1
  refine XS.x_forT hs (fun i σ H' => ∃ y2 : Option V, σ = [some v, some (.int (depM ((parts a).take i))), y2] ∧ Same H1 H') ⟨none, rfl, Same.refl _⟩ (fun i σ H' _ ⟨_, _, e⟩ => e.seqT hs) ?_ ?_
  · rintro i u σ H' hi ⟨y2, rfl, e2⟩
    have hlt : i < (parts a).length := by rw [← l1]; exact (List.getElem?_eq_some_iff.mp hi).1
    have hb : (parts a)[i]? = some (parts a)[i] := List.getElem?_eq_getElem hlt
    generalize (parts a)[i] = b at hb
    obtain ⟨dd, hdd, du⟩ := (DpAll.same e2 _ _ ha).getV hi
    rw [List.getElem?_map, hb] at hdd
    cases hdd
    walk_at "go"
    refine ⟨_, b, rfl, du, by have := dep_parts (List.mem_of_getElem? hb); omega, fun H3 e3 => ?_⟩
    walk_at "go"
    refine ⟨_, _, rfl, ?_⟩
    walk_at "go"
    refine ⟨some u, ?_, e2.trans e3⟩
    rw [XS.take_more hb, depM_app]
    have e4 : (if ((dep b : Nat) : Int) > ((depM ((parts a).take i) : Nat) : Int) then ((dep b : Nat) : Int) else ((depM ((parts a).take i) : Nat) : Int)) = ((max (depM ((parts a).take i)) (dep b) : Nat) : Int) := by
      split <;> omega
    rw [e4]
    rfl
  · rintro σ H' ⟨y2, rfl, e2⟩
    rw [l1, List.take_length]
    walk_at "go"
    have e3 : ((depM (parts a) : Nat) : Int) + 1 = ((dep a : Nat) : Int) := by rw [dep_depM]; omega
    rw [e3]
    exact q _ (e1.trans e2)
theorem depth_all (F : FunAt K mg "depth" s_depth P_depth) (Z : Bl mg) (Z2 : Bl2 mg) (D_parts_within : DefAt P w K mg base CX0 1 "parts_within" P_parts_within (sp_parts K)) : ∀ n, DefAt P w K mg base CX0 (n + 1) "depth" P_depth (sp_depth n K)
  | 0 => F.never fun vs H Q E h => by
    obtain ⟨_, a, _, _, hn, _⟩ := h
    have := dep_pos a
    omega
  | n + 1 => depth_step F Z Z2 D_parts_within (depth_all F Z Z2 D_parts_within n)

abbrev s_shallow : Stmt := topS 102
abbrev N_shallow : List Str := ["statement", "most", "kind", "parts", "part"]
abbrev P_shallow : List Str := ["statement", "most"]
theorem sc_shallow : FnScope N_shallow P_shallow (defScope s_shallow) := ⟨rfl, rfl, rfl, by decide +kernel, rfl, by decide +kernel, by decide +kernel⟩
theorem d_shallow (F : FunAt K mg "shallow" s_shallow P_shallow) (Z : Bl mg) (D_depth : DefAt P w K mg base CX0 61 "depth" P_depth (sp_depth 60 K)) (D_fitting_depths : DefAt P w K mg base CX0 1 "fitting_depths" P_fitting_depths sp_no)
    (D_joined : DefAt P w K mg base CX0 2 "joined" P_joined (sp_joined K)) : DefAt P w K mg base CX0 62 "shallow" P_shallow (sp_shallow K) := by
  refine F.ok sc_shallow (fun vs H Q E h => ?_) (fun f cdv A outer s H vs Q E hr h => ?_)
  · obtain ⟨_, _, _, rfl, _⟩ := h
    rfl
  obtain ⟨v, a, most, rfl, h1, hd, hm, q⟩ := h
  refine ⟨_, (pss_cons (ps_if (pt_cmpR op_le (pe_callD D_depth (hr.mono (by first | exact Nat.le_refl _ | omega | decide)) rfl pass0 (pa_cons (pv 0) pa_nil)) (pv 1) (nomark _))
          (pss_one (ps_ret (pv 0))) pss_nil)
        (pss_cons (ps_set (i := 2) sc_shallow.nd rfl (Or.inl rfl) (pe_ix (ix_tupK K) (pv 0) pe_int (fun _ _ => rfl)))
        (pss_cons (ps_set (i := 3) sc_shallow.nd rfl (Or.inl rfl) (pe_lst pa_nil))
        (pss_cons (ps_for PassesOwn.never rfl (pi_tupK K (pe_ix (ix_tupK K) (pv 0) pe_int (fun _ _ => rfl))) (pg_name (i := 4) sc_shallow.nd rfl (Or.inl rfl))
          (pss_cons (ps_if (pt_cmpR op_ge (pe_callD D_depth (hr.mono (by first | exact Nat.le_refl _ | omega | decide)) rfl pass0 (pa_cons (pv 4) pa_nil)) (pv 1) (nomark _))
          (pss_one (ps_set (i := 4) sc_shallow.nd rfl (Or.inl rfl) (pe_callD D_fitting_depths (hr.mono (by first | exact Nat.le_refl _ | omega | decide)) rfl pass0 (pa_cons (pv 2) (pa_cons (pv 4) (pa_cons (pv 1) pa_nil)))))) pss_nil)
        (pss_one (ps_expr (pe_bm PySem.F.plainAttrs_list PySem.F.slot_list_append PySem.F.type_list_append mt_append (pv 3) (pa_cons (pv 4) pa_nil))))))
        (pss_one (ps_ret (pe_callD D_joined (hr.mono (by first | exact Nat.le_refl _ | omega | decide)) rfl pass0 (pa_cons (pv 2) (pa_cons (pv 3) pa_nil))))))))), ?_⟩
  walk_at "go"
  refine ⟨v, a, rfl, h1, hd, fun H1 e1 => ?_⟩
  walk_at "go"
  refine XS.x_yes (decide_eq_true (by omega)) ?_
  walk_at "go"
  exact q _ e1
abbrev s_fitting_taking : Stmt := topS 110
abbrev N_fitting_taking : List Str := ["found", "statement"]
abbrev P_fitting_taking : List Str := ["found", "statement"]
theorem sc_fitting_taking : FnScope N_fitting_taking P_fitting_taking (defScope s_fitting_taking) := ⟨rfl, rfl, rfl, by decide +kernel, rfl, by decide +kernel, by decide +kernel⟩
theorem d_fitting_taking (C : Ci mg) (F : FunAs K mg "fitting_taking" "_fitting" s_fitting_taking P_fitting_taking) (Z : Bl mg) (Z2 : Bl2 mg) (D_depth : DefAt P w K mg base CX0 61 "depth" P_depth (sp_depth 60 K)) (D_shallow : DefAt P w K mg base CX0 62 "shallow" P_shallow (sp_shallow K)) :
    DefAt P w K mg base CX0 63 "fitting_taking" P_fitting_taking (sp_fitting K) := by
  obtain ⟨tMW, Ci_MW⟩ := C.c_MOST_WITHIN
  refine F.ok sc_fitting_taking (fun vs H Q E h => ?_) (fun f cdv A outer s H vs Q E hr h => ?_)
  · obtain ⟨_, _, _, _, rfl, _⟩ := h
    rfl
  obtain ⟨v, u, a, s0, rfl, h1, h2, hd, hs, q⟩ := h
  refine ⟨_, (pss_one (ps_ret (pe_callD D_shallow (hr.mono (by first | exact Nat.le_refl _ | omega | decide)) rfl pass0 (pa_cons (pv 0) (pa_cons (pe_callB (call_max2 rfl) (by rfl) Z2.max (by decide +kernel) (pa_cons (pe_glob (v := .int _) rfl Ci_MW ⟨_, rfl⟩) (pa_cons (pe_callD D_depth (hr.mono (by first | exact Nat.le_refl _ | omega | decide)) rfl pass0 (pa_cons (pv 1) pa_nil)) pa_nil))) pa_nil))))), ?_⟩
  walk_at "go"
  refine ⟨u, s0, rfl, h2, hs, fun H1 e1 => ?_⟩
  walk_at "go"
  refine ⟨_, _, rfl, ?_⟩
  walk_at "go"
  refine ⟨v, a, _, rfl, Dp.same e1 _ _ h1, by omega, ?_, fun H2 e2 => ?_⟩
  · split <;> omega
  · exact q _ (e1.trans e2)
abbrev s__without_nought : Stmt := topS 113
abbrev N__without_nought : List Str := ["one", "up", "down"]
abbrev P__without_nought : List Str := ["one"]
theorem sc__without_nought : FnScope N__without_nought P__without_nought (defScope s__without_nought) := ⟨rfl, rfl, rfl, by decide +kernel, rfl, by decide +kernel, by decide +kernel⟩
theorem d__without_nought {nm : List Str} {N : Nat} (hnm : nm.length ≤ 32) (hN : (N + 1).log2 < 4000) (hN1 : 1 ≤ N) {aT aF aO : Addr} (Ct : Ct K w mg aT aF aO) (F : FunAt K mg "_without_nought" s__without_nought P__without_nought) (Z : Bl mg)
    (D_about : DefAt P w K mg base CX0 1 "about" P_about (sp_about K)) (D_sum_of : DefAt P w K mg base CX0 1 "sum_of" P_sum_of (sp_sum_of K)) (D_times : DefAt P w K mg base CX0 2 "times" P_times (sp_times K)) (D_added : DefAt P w K mg base CX0 2 "added" P_added (sp_added K))
    (D_above : DefAt P w K mg base CX0 2 "above" P_above (sp_form1 (Ab nm (N + 1)) nm (N + 1) .above K)) (D_joined : DefAt P w K mg base CX0 2 "joined" P_joined (sp_joined K)) : DefAt P w K mg base CX0 3 "_without_nought" P__without_nought (sp_change (Atom nm N) (Satom nm (N + 1)) K) := by
  refine F.ok sc__without_nought (fun vs H Q E h => ?_) (fun f cdv A outer s H vs Q E hr h => ?_)
  · obtain ⟨_, _, rfl, _⟩ := h
    rfl
  obtain ⟨v, a, rfl, h1, at1, q⟩ := h
  have hu := hu_of hr
  refine ⟨_, (pss_cons (ps_if (pt_cmpR op_ne (pe_callD D_about (hr.mono (by first | exact Nat.le_refl _ | omega | decide)) rfl pass0 (pa_cons (pv 0) pa_nil)) pe_str (nomark _))
          (pss_one (ps_ret (pv 0))) pss_nil)
        (pss_cons (ps_set (i := 1) sc__without_nought.nd rfl (Or.inl rfl) (pe_callD D_sum_of (hr.mono (by first | exact Nat.le_refl _ | omega | decide)) rfl pass0 (pa_cons (pv 0) pa_nil)))
        (pss_cons (ps_set (i := 2) sc__without_nought.nd rfl (Or.inl rfl) (pe_callD D_times (hr.mono (by first | exact Nat.le_refl _ | omega | decide)) rfl pass0 (pa_cons (pe_un un_neg pe_int) (pa_cons (pv 1) pa_nil))))
        (pss_cons (ps_if (pt_cmpR op_eq (pe_ix (ix_tupK K) (pv 0) pe_int (fun _ _ => rfl)) pe_str (nomark _))
          (pss_one (ps_ret (pe_callD D_joined (hr.mono (by first | exact Nat.le_refl _ | omega | decide)) rfl pass0 (pa_cons pe_str (pa_cons (pe_lst (pa_cons (pe_callD D_above (hr.mono (by first | exact Nat.le_refl _ | omega | decide)) rfl pass0 (pa_cons (pv 1) pa_nil)) (pa_cons (pe_callD D_above (hr.mono (by first | exact Nat.le_refl _ | omega | decide)) rfl pass0 (pa_cons (pv 2) pa_nil)) pa_nil))) pa_nil))))) pss_nil)
        (pss_one (ps_ret (pe_callD D_joined (hr.mono (by first | exact Nat.le_refl _ | omega | decide)) rfl pass0 (pa_cons pe_str (pa_cons (pe_lst (pa_cons (pe_callD D_above (hr.mono (by first | exact Nat.le_refl _ | omega | decide)) rfl pass0 (pa_cons (pe_callD D_added (hr.mono (by first | exact Nat.le_refl _ | omega | decide)) rfl pass0 (pa_cons (pe_tup (pa_cons pe_int (pa_cons (pe_tup pa_nil) pa_nil))) (pa_cons (pv 1) pa_nil))) pa_nil)) (pa_cons (pe_callD D_above (hr.mono (by first | exact Nat.le_refl _ | omega | decide)) rfl pass0 (pa_cons (pe_callD D_added (hr.mono (by first | exact Nat.le_refl _ | omega | decide)) rfl pass0 (pa_cons (pe_tup (pa_cons pe_int (pa_cons (pe_tup pa_nil) pa_nil))) (pa_cons (pv 2) pa_nil))) pa_nil)) pa_nil))) pa_nil))))))))), ?_⟩
  obtain ⟨p, us, rfl, hp, ds, eds, hds⟩ := Dp.stm h1
  walk_at "go"
  refine ⟨_, a, rfl, h1, ?_⟩
  walk_at "go"
  have fA : ∀ {b : Stm}, Fmd (Ab nm (N + 1)) b → FT (Satom nm (N + 1)) 0 b := fun h => by
    rcases h with h | h | ⟨s, rfl, h⟩
    · exact .inl h
    · exact .inr (.inl h)
    · exact .inr (.inr (.atom (.above h) rfl))
  have lA : ∀ {b : Stm}, Fmd (Ab nm (N + 1)) b → lv b ≤ 1 := fun h => by
    rcases h with rfl | rfl | ⟨s, rfl, h⟩
    · exact Nat.zero_le _
    · exact Nat.zero_le _
    · exact Nat.le_refl _
  have join : ∀ (o : Bool) (b c : Stm), Fmd (Ab nm (N + 1)) b → Fmd (Ab nm (N + 1)) c → FT (Satom nm (N + 1)) 1 (joinB o [b, c]) ∧ lv (joinB o [b, c]) ≤ 2 ∧ ([b, c].flatMap (flat1 o)).length ≤ 1000000 := fun o b c hb hc => by
    have all : ∀ d ∈ [b, c], FT (Satom nm (N + 1)) 0 d := fun d hd => by
      rcases List.mem_cons.mp hd with rfl | hd
      · exact fA hb
      · rw [List.mem_singleton.mp hd]; exact fA hc
    have l2 : lvs [b, c] ≤ 2 := by have := lA hb; have := lA hc; show lv b + (lv c + 0) ≤ 2; omega
    have fl := flat_len (fun a h => satom_lv h) (o := o) all
    have jl := joinB_lv o [b, c]
    refine ⟨joinB_ft all, by omega, ?_⟩
    simp at fl ⊢
    omega
  cases at1 with
  | above h =>
    refine XS.x_yes (by show (!decide (("above" : Str) = "nought")) = true; decide +kernel) ?_
    walk_at "go"
    exact q p _ H (Same.refl _) (.inr (.inr (.atom (.above (h.mono (Nat.le_succ _))) rfl))) (fun f => rfl) (by show 1 ≤ 2; omega) h1
  | goes h =>
    refine XS.x_yes (by show (!decide (("goes" : Str) = "nought")) = true; decide +kernel) ?_
    walk_at "go"
    exact q p _ H (Same.refl _) (.inr (.inr (.atom (.goes (h.mono (Nat.le_succ _))) rfl))) (fun f => rfl) (by show 1 ≤ 2; omega) h1
  | ng h =>
    refine XS.x_yes (by show (!decide (("goes" : Str) = "nought")) = true; decide +kernel) ?_
    walk_at "go"
    exact q p _ H (Same.refl _) (.inr (.inr (.atom (.ng (h.mono (Nat.le_succ _))) rfl))) (fun f => rfl) (by show 1 ≤ 2; omega) h1
  | @nought s h =>
    refine XS.x_no (by show (!decide (("nought" : Str) = "nought")) = false; decide +kernel) ?_
    walk_at "go"
    refine ⟨_, _, rfl, h1, rfl, fun u du => ?_⟩
    walk_at "go"
    have ss := bs_sml h.bd (by have := log2_mono (show N ≤ N + 1 by omega); omega)
    have ln := (so_in h hnm).len
    refine ⟨-1, u, s, rfl, du, ln, sml_small (by decide), ss, fun t1 H1 e1 d1 => ?_⟩
    rw [tim_neg h.no] at d1
    have hn := negP_so (n := s.1) (n' := -s.1) h (by have := h.bd.1; omega)
    have du1 := Dp.same e1 _ _ du
    walk_at "go"
    refine XS.x_ixT (e1.seqT hp) (XS.atI_get (i := 0) rfl) ?_
    walk_at "go"
    refine XS.x_no (by show decide (("nought" : Str) = "not") = false; decide +kernel) ?_
    walk_at "go"
    refine ⟨XS.sz (by simp), fun t2 ht2 => ?_⟩
    obtain ⟨e2, k2⟩ := XS.newly (o := HO.tup _) ht2
    generalize hGH2 : upd _ t2 _ = H2 at e2 k2 ⊢
    walk_at "go"
    refine ⟨XS.sz (by simp), fun t3 ht3 => ?_⟩
    obtain ⟨e3, k3⟩ := XS.newly (o := HO.tup _) ht3
    generalize hGH3 : upd _ t3 _ = H3 at e3 k3 ⊢
    walk_at "go"
    have one3 : Dp K H3 (.ref t3) (sumD (1, [])) := Dp.mkSum (s := (1, [])) (SqT.of k3) (e3.seqT (SqT.of k2)) .nil
    refine ⟨_, u, (1, []), s, rfl, one3, Dp.same (e2.trans e3) _ _ du1, (by show 0 + _ < 64; omega), fun t4 H4 e4 d4 => ?_⟩
    rw [add_one h.no] at d4
    walk_at "go"
    have so1 : SO nm (N + 1) (1 + s.1, s.2) := ⟨h.no, h.sub, h.ne, ⟨by have := h.bd.1; show (1 + s.1).natAbs ≤ _; omega, fun p hp => Nat.le_succ_of_le (h.bd.2 p hp)⟩, h.sh⟩
    refine ⟨_, _, rfl, d4, so_in so1 hnm, fun t5 b5 H5 e5 f5 tr5 d5 => ?_⟩
    walk_at "go"
    refine ⟨XS.sz (by simp), fun t6 ht6 => ?_⟩
    obtain ⟨e6, k6⟩ := XS.newly (o := HO.tup _) ht6
    generalize hGH6 : upd _ t6 _ = H6 at e6 k6 ⊢
    walk_at "go"
    refine ⟨XS.sz (by simp), fun t7 ht7 => ?_⟩
    obtain ⟨e7, k7⟩ := XS.newly (o := HO.tup _) ht7
    generalize hGH7 : upd _ t7 _ = H7 at e7 k7 ⊢
    walk_at "go"
    have one7 : Dp K H7 (.ref t7) (sumD (1, [])) := Dp.mkSum (s := (1, [])) (SqT.of k7) (e7.seqT (SqT.of k6)) .nil
    have e27 := e2.trans (e3.trans (e4.trans (e5.trans (e6.trans e7))))
    refine ⟨_, _, (1, []), (-s.1, negP s.2), rfl, one7, Dp.same e27 _ _ d1, (by show 0 + (negP s.2).length < 64; unfold negP; rw [List.length_map]; omega), fun t8 H8 e8 d8 => ?_⟩
    rw [add_one hn.no] at d8
    walk_at "go"
    have so2 : SO nm (N + 1) (1 + -s.1, negP s.2) := ⟨hn.no, hn.sub, hn.ne, ⟨by have := h.bd.1; show (1 + -s.1).natAbs ≤ _; omega, hn.bd.2⟩, hn.sh⟩
    refine ⟨_, _, rfl, d8, so_in so2 hnm, fun t9 b9 H9 e9 f9 tr9 d9 => ?_⟩
    walk_at "go"
    refine ⟨XS.sz (by simp), fun l10 hl10 => ?_⟩
    obtain ⟨e10, k10⟩ := XS.newly (o := HO.lst _) hl10
    generalize hGH10 : upd _ l10 _ = H10 at e10 k10 ⊢
    walk_at "go"
    obtain ⟨j1, j2, j3⟩ := join true b5 b9 f5 f9
    refine ⟨l10, _, [b5, b9], true, rfl, .inl (SqL.of k10), .cons (Dp.same (e6.trans (e7.trans (e8.trans (e9.trans e10)))) _ _ d5) (.one (Dp.same e10 _ _ d9)), j3, fun t11 H11 e11 d11 => ?_⟩
    refine q t11 _ H11 (e1.trans (e27.trans (e8.trans (e9.trans (e10.trans e11))))) j1 (fun f => ?_) j2 d11
    rw [joinB_tru, tru_con]
    simp only [if_true, List.all_cons, List.all_nil, Bool.and_true, tr5, tr9]
    show (decide (0 < 1 + s.1 + dot f s.2) && decide (0 < 1 + -s.1 + dot f (negP s.2))) = decide (s.1 + dot f s.2 = 0)
    rw [negP_dot, ← Bool.decide_and, decide_eq_decide]
    omega
  | @nn s h =>
    refine XS.x_no (by show (!decide (("nought" : Str) = "nought")) = false; decide +kernel) ?_
    walk_at "go"
    refine ⟨_, _, rfl, h1, rfl, fun u du => ?_⟩
    walk_at "go"
    have ss := bs_sml h.bd (by have := log2_mono (show N ≤ N + 1 by omega); omega)
    have ln := (so_in h hnm).len
    refine ⟨-1, u, s, rfl, du, ln, sml_small (by decide), ss, fun t1 H1 e1 d1 => ?_⟩
    rw [tim_neg h.no] at d1
    have hn := negP_so (n := s.1) (n' := -s.1) h (by have := h.bd.1; omega)
    have du1 := Dp.same e1 _ _ du
    walk_at "go"
    refine XS.x_ixT (e1.seqT hp) (XS.atI_get (i := 0) rfl) ?_
    walk_at "go"
    refine XS.x_yes (by show decide (("not" : Str) = "not") = true; decide +kernel) ?_
    walk_at "go"
    refine ⟨_, s, rfl, du1, so_in (h.mono (Nat.le_succ _)) hnm, fun t5 b5 H5 e5 f5 tr5 d5 => ?_⟩
    walk_at "go"
    refine ⟨_, _, rfl, Dp.same e5 _ _ d1, so_in hn hnm, fun t9 b9 H9 e9 f9 tr9 d9 => ?_⟩
    walk_at "go"
    refine ⟨XS.sz (by simp), fun l10 hl10 => ?_⟩
    obtain ⟨e10, k10⟩ := XS.newly (o := HO.lst _) hl10
    generalize hGH10 : upd _ l10 _ = H10 at e10 k10 ⊢
    walk_at "go"
    obtain ⟨j1, j2, j3⟩ := join false b5 b9 f5 f9
    refine ⟨l10, _, [b5, b9], false, rfl, .inl (SqL.of k10), .cons (Dp.same (e9.trans e10) _ _ d5) (.one (Dp.same e10 _ _ d9)), j3, fun t11 H11 e11 d11 => ?_⟩
    refine q t11 _ H11 (e1.trans (e5.trans (e9.trans (e10.trans e11)))) j1 (fun f => ?_) j2 d11
    rw [joinB_tru, tru_con]
    simp only [Bool.false_eq_true, if_false, List.any_cons, List.any_nil, Bool.or_false, tr5, tr9]
    show (decide (0 < s.1 + dot f s.2) || decide (0 < -s.1 + dot f (negP s.2))) = !decide (s.1 + dot f s.2 = 0)
    rw [negP_dot, ← Bool.decide_or, ← decide_not, decide_eq_decide]
    omega

abbrev s__formed : Stmt := topS 112
abbrev N__formed : List Str := ["statement", "wanted", "kind", "parts", "part", "found", "one"]
abbrev P__formed : List Str := ["statement", "wanted"]
theorem sc__formed : FnScope N__formed P__formed (defScope s__formed) := ⟨rfl, rfl, rfl, by decide +kernel, rfl, by decide +kernel, by decide +kernel⟩
theorem formed_all {nm : List Str} {N : Nat} (hnm : nm.length ≤ 32) {oS bN aT aF aO : Addr} (Cn : Cs K mg oS bN) (Ct : Ct K w mg aT aF aO) (F : FunAt K mg "_formed" s__formed P__formed) (Z : Bl mg) (D_simple : DefAt P w K mg base CX0 4 "simple" P_simple (sp_simple nm N K))
    (D_opposite : DefAt P w K mg base CX0 3 "opposite" P_opposite (sp_opposite nm N 0 K)) (D_joined : DefAt P w K mg base CX0 2 "joined" P_joined (sp_joined K)) (D_some_number : DefAt P w K mg base CX0 1 "some_number" P_some_number sp_no) (D_slimmed : DefAt P w K mg base CX0 1 "slimmed" P_slimmed sp_no) :
    ∀ n, DefAt P w K mg base CX0 (n + 5) "_formed" P__formed (sp_formed nm N n K) := by
  intro n
  induction n with
  | zero => exact F.never fun vs H Q E h => by
              obtain ⟨_, a, _, _, _, _, hn, _⟩ := h
              have := dep_pos a
              omega
  | succ n ih =>
  have D__formed := ih
  refine F.ok sc__formed (fun vs H Q E h => ?_) (fun f cdv A outer s H vs Q E hr h => ?_)
  · obtain ⟨_, _, _, rfl, _⟩ := h
    rfl
  obtain ⟨v, a, wt, rfl, h1, ed, hn, hlv, q⟩ := h
  refine ⟨_, (pss_cons (ps_set (i := 2) sc__formed.nd rfl (Or.inl rfl) (pe_ix (ix_tupK K) (pv 0) pe_int (fun _ _ => rfl)))
        (pss_cons (ps_if (pt_cmpR op_eq (pv 2) pe_str (nomark _))
          (pss_one (ps_ret (pe_callD D__formed (hr.mono (by first | exact Nat.le_refl _ | omega | decide)) rfl pass0 (pa_cons (pe_ix (ix_tupK K) (pv 0) pe_int (fun _ _ => rfl)) (pa_cons (pe_not (pv 1)) pa_nil))))) pss_nil)
        (pss_cons (ps_if (pt_cmpR (op_inK K) (pv 2) (pe_glob (v := .ref _) rfl Cn.c_BINDING rfl) (by rfl))
          (pss_cons (ps_set (i := 5) sc__formed.nd rfl (Or.inl rfl) (pe_callD D_some_number (hr.mono (by first | exact Nat.le_refl _ | omega | decide)) rfl pass0 (pa_cons (pe_ix (ix_tupK K) (pv 0) pe_int (fun _ _ => rfl)) (pa_cons (pe_callD D_slimmed (hr.mono (by first | exact Nat.le_refl _ | omega | decide)) rfl pass0 (pa_cons (pe_callD D__formed (hr.mono (by first | exact Nat.le_refl _ | omega | decide)) rfl pass0 (pa_cons (pe_ix (ix_tupK K) (pv 0) pe_int (fun _ _ => rfl)) (pa_cons (pe_cmpR op_eq (pv 2) pe_str (nomark _)) pa_nil))) pa_nil)) pa_nil))))
        (pss_one (ps_ret (pe_ifExp (pt_cmpR op_eq (pv 1) (pe_cmpR op_eq (pv 2) pe_str (nomark _)) (nomark _)) (pv 5) (pe_callD D_opposite (hr.mono (by first | exact Nat.le_refl _ | omega | decide)) rfl pass0 (pa_cons (pv 5) pa_nil)))))) pss_nil)
        (pss_cons (ps_if (pt_cmpR (op_inK K) (pv 2) (pe_glob (v := .ref _) rfl Cn.c_OVER_SUMS rfl) (by rfl))
          (pss_cons (ps_set (i := 6) sc__formed.nd rfl (Or.inl rfl) (pe_callD D_simple (hr.mono (by first | exact Nat.le_refl _ | omega | decide)) rfl pass0 (pa_cons (pv 0) pa_nil)))
        (pss_one (ps_ret (pe_ifExp (pt_val (pv 1)) (pv 6) (pe_callD D_opposite (hr.mono (by first | exact Nat.le_refl _ | omega | decide)) rfl pass0 (pa_cons (pv 6) pa_nil)))))) pss_nil)
        (pss_cons (ps_set (i := 3) sc__formed.nd rfl (Or.inl rfl) (pe_lst pa_nil))
        (pss_cons (ps_for PassesOwn.never rfl (pi_tupK K (pe_ix (ix_tupK K) (pv 0) pe_int (fun _ _ => rfl))) (pg_name (i := 4) sc__formed.nd rfl (Or.inl rfl))
          (pss_one (ps_expr (pe_bm PySem.F.plainAttrs_list PySem.F.slot_list_append PySem.F.type_list_append mt_append (pv 3) (pa_cons (pe_callD D__formed (hr.mono (by first | exact Nat.le_refl _ | omega | decide)) rfl pass0 (pa_cons (pv 4) (pa_cons (pv 1) pa_nil))) pa_nil)))))
        (pss_one (ps_ret (pe_callD D_joined (hr.mono (by first | exact Nat.le_refl _ | omega | decide)) rfl pass0 (pa_cons (pe_ifExp (pt_val (pv 1)) (pv 2) (pe_ix (ix_kdictK K w) (pe_glob (v := .ref _) rfl Ct.c_OTHER rfl) (pv 2) (fun _ _ => rfl))) (pa_cons (pv 3) pa_nil))))))))))), ?_⟩
  obtain ⟨p, us, rfl, hp, ds, eds, hds⟩ := Dp.stm h1
  walk_at "go"
  refine XS.x_ixT hp (XS.atI_get (i := 0) rfl) ?_
  walk_at "go"
  rw [is_not]
  cases ed with
  | fin e hq =>
    have e0 : isNeg a = false := by cases a <;> first | rfl | cases e
    refine XS.x_no e0 ?_
    walk_at "go"
    have e1 : isB a = false := by cases a <;> first | rfl | cases e
    refine XS.x_inT (Cn.s_BINDING _) (in_bind a) rfl ?_
    rw [e1]
    walk_at "go"
    refine XS.x_inT (Cn.s_OVER_SUMS _) (in_over a) rfl ?_
    rw [e]
    walk_at "go"
    refine ⟨_, a, rfl, h1, hq, fun t b H1 e2 fb tb d1 => ?_⟩
    have ft : FT (Atom nm N) 0 b := by
      rcases fb with h | h | h
      · exact .inl h
      · exact .inr (.inl h)
      · exact .inr (.inr (.atom h (atom_con h)))
    have lb : lv b ≤ 1 := by
      rcases fb with rfl | rfl | h
      · exact Nat.zero_le _
      · exact Nat.zero_le _
      · rw [atom_lv1 h]; exact Nat.le_refl _
    have la : lv a = 1 := end_lv e
    have up : FT (Atom nm N) 0 b → FT (Atom nm (N + 1)) (n + 1) b := fun h => by
      rcases h with h | h | h
      · exact .inl h
      · exact .inr (.inl h)
      · refine .inr (.inr ?_)
        cases h with
        | atom h e => exact .atom (h.mono (Nat.le_succ _)) e
    walk_at "go"
    cases wt with
    | true =>
      walk_at "go"
      exact q t b H1 e2 (up ft) (fun f => by rw [tb f]; cases tru f a <;> rfl) (by omega) d1
    | false =>
      walk_at "go"
      obtain ⟨o1, o2, o3⟩ := opT_ft ft
      refine ⟨_, b, rfl, d1, ft, by omega, fun t2 H2 e3 d2 => ?_⟩
      exact q t2 _ H2 (e2.trans e3) (o1.mono (by omega)) (fun f => by rw [o2 f, tb f]; cases tru f a <;> rfl) (by omega) d2
  | @neg c ed =>
    refine XS.x_yes rfl ?_
    walk_at "go"
    cases eds
    cases hds with
    | cons g1 g2 =>
    refine XS.x_ixT hp (XS.atI_get (i := 1) rfl) ?_
    walk_at "go"
    refine ⟨_, c, !wt, rfl, g1, ed, Nat.le_of_succ_le_succ hn, hlv, fun t b H1 e2 fb tb lb d1 => ?_⟩
    refine q t b H1 e2 (fb.mono (Nat.le_succ _)) (fun f => ?_) lb d1
    rw [tb f]
    show (tru f c == !wt) = ((!tru f c) == wt)
    cases tru f c <;> cases wt <;> rfl
  | @con o l ed hl64 =>
    refine XS.x_no rfl ?_
    walk_at "go"
    refine XS.x_inT (Cn.s_BINDING _) (in_bind _) rfl ?_
    walk_at "go"
    refine XS.x_no rfl ?_
    walk_at "go"
    refine XS.x_inT (Cn.s_OVER_SUMS _) (in_over _) rfl ?_
    walk_at "go"
    refine XS.x_no rfl ?_
    walk_at "go"
    cases eds
    cases hds with
    | cons g1 g2 =>
    rw [toDs_map] at g1
    cases g1 with
    | tup hs ha =>
    have l1 := ha.len
    rw [List.length_map] at l1
    refine ⟨XS.sz (by simp), fun r1 hr1 => ?_⟩
    obtain ⟨e1, k1⟩ := XS.newly (o := HO.lst _) hr1
    generalize hGH1 : upd _ r1 _ = H1 at e1 k1 ⊢
    walk_at "go"
    refine XS.x_ixT (e1.seqT hp) (XS.atI_get (i := 1) rfl) ?_
    have hlv' : lvs l ≤ 10000 := hlv
    have hn' : deps l ≤ n := Nat.le_of_succ_le_succ hn
    refine XS.x_forT (e1.seqT hs) (fun i σ H' => ∃ (y6 : Option V) (acc : List V) (bs : List Stm), σ = [some (.ref p), some (.bl wt), some (.str (headW (Stm.con o l))), some (.ref r1), y6, none, none] ∧ Same H H' ∧ H' r1 = some (.lst acc) ∧ DpAll K H' acc (bs.map toD) ∧ Rw (Atom nm (N + 1)) n wt (l.take i) bs) ⟨none, [], [], rfl, e1, k1, .nil, Rw.nil⟩ (fun i σ H' _ ⟨_, _, _, _, e, _⟩ => e.seqT hs) ?_ ?_
    · rintro i u σ H' hi ⟨y6, acc, bs, rfl, e2, k2, d2, rl⟩
      have hlt : i < l.length := by rw [← l1]; exact (List.getElem?_eq_some_iff.mp hi).1
      have hc : l[i]? = some l[i] := List.getElem?_eq_getElem hlt
      generalize l[i] = c at hc
      have hmem := List.mem_of_getElem? hc
      obtain ⟨dd, hdd, du⟩ := (DpAll.same e2 _ _ ha).getV hi
      rw [List.getElem?_map, hc] at hdd
      cases hdd
      walk_at "go"
      refine XS.x_tyL' (XS.x_tyL k2) ?_
      walk_at "go"
      refine ⟨u, c, wt, rfl, du, ed c hmem, Nat.le_trans (dep_in hmem) hn', by have := lv_in hmem; omega, fun t5 b H5 e5 fb tb lb d5 => ?_⟩
      walk_at "go"
      have k5 := e5 _ _ k2
      have kk := keeps_lst (ys := acc ++ [.ref t5]) k5
      have la := d2.len
      rw [List.length_map, rl.len, List.length_take] at la
      refine XS.x_app k5 (szl (by omega)) ?_
      refine ⟨_, acc ++ [.ref t5], bs ++ [b], rfl, XS.same_mut (e2.trans e5) hr1, upd_same, ?_, ?_⟩
      · rw [List.map_append]
        refine (DpAll.keeps kk _ _ (fun d hd => ?_) (DpAll.same e5 _ _ d2)).app (.one (Dp.keeps kk _ _ (im_stm _) d5))
        obtain ⟨z, _, rfl⟩ := List.mem_map.mp hd
        exact im_stm z
      · rw [XS.take_more hc]
        exact rl.more fb tb lb
    · rintro σ H' ⟨y6, acc, bs, rfl, e2, k2, d2, rl⟩
      rw [l1, List.take_length] at rl
      have fl := fun o' => flat_len (fun a h => atom_lv h) (o := o') rl.ft
      have l2 := rl.lv
      have l3 := rl.len
      walk_at "go"
      have fin : ∀ o' : Bool, o' = (if wt = true then o else !o) → sp_joined K ([.str (conW o'), .ref r1] ++ []) H' Q E0 := fun o' eo => by
        refine ⟨r1, acc, bs, o', rfl, .inl (SqL.of k2), d2, by have := fl o'; omega, fun t H5 e5 d5 => ?_⟩
        refine q t (joinB o' bs) H5 (e2.trans e5) (joinB_ft rl.ft) (fun f => by rw [joinB_tru, eo, rl.con]) ?_ d5
        have := joinB_lv o' bs
        show lv (joinB o' bs) ≤ lvs l
        omega
      cases wt with
      | true =>
        walk_at "go"
        exact fin o rfl
      | false =>
        walk_at "go"
        refine XS.x_kget (Ct.get o) ?_
        walk_at "go"
        exact fin (!o) rfl
abbrev s_straight : Stmt := topS 109
abbrev N_straight : List Str := ["statement"]
abbrev P_straight : List Str := ["statement"]
theorem sc_straight : FnScope N_straight P_straight (defScope s_straight) := ⟨rfl, rfl, rfl, by decide +kernel, rfl, by decide +kernel, by decide +kernel⟩
theorem d_straight {N : Nat} {eS eV eP eN : Addr} (Y : Er K mg eS eV eP eN) (F : FunAt K mg "straight" s_straight P_straight) (Z : Bl mg) (D_refuse_unless_plain : DefAt P w K mg base (L2.CX P w) 62 "refuse_unless_plain" P_refuse_unless_plain (sp_refuse K eP))
    (D_fitting_taking : DefAt P w K mg base CX0 63 "fitting_taking" P_fitting_taking (sp_fitting K)) {fW : Addr} (gv__without_nought : mg "_without_nought" = some (.ref fW)) (D_changed' : ∀ nm : List Str, nm.length ≤ 32 → DefAt P w K mg base CX0 41 "changed" P_changed (sp_changed (Atom nm (N + 1)) (Satom nm (N + 2)) fW 36 K))
    (D__formed' : ∀ nm : List Str, nm.length ≤ 32 → DefAt P w K mg base CX0 41 "_formed" P__formed (sp_formed nm N 36 K)) : DefAt P w K mg base (L2.CX P w) 64 "straight" P_straight (sp_straightE N K eP) := by
  refine F.okX sc_straight (fun vs H Q E h => ?_) (fun f cdv A outer s H vs Q E hr h => ?_)
  · obtain ⟨_, _, _, _, rfl, _⟩ := h
    rfl
  obtain ⟨nm, hnm, v, a, rfl, h1, hd, hpl, q1, q2⟩ := h
  have D_changed := D_changed' nm hnm
  have D__formed := D__formed' nm hnm
  refine ⟨_, (pss_cons (ps_expr (pe_callX D_refuse_unless_plain (hr.mono (by first | exact Nat.le_refl _ | omega | decide)) rfl (fun σ => passAt (takes_of rfl rfl rfl rfl) σ) (pa_cons (pv 0) pa_nil)))
        (pss_one (ps_ret (pe_callD D_fitting_taking (hr.mono (by first | exact Nat.le_refl _ | omega | decide)) rfl pass0 (pa_cons (pe_callD D_changed (hr.mono (by first | exact Nat.le_refl _ | omega | decide)) rfl pass0 (pa_cons (pe_callD D__formed (hr.mono (by first | exact Nat.le_refl _ | omega | decide)) rfl pass0 (pa_cons (pv 0) (pa_cons pe_bl pa_nil))) (pa_cons (pe_glob (v := .ref _) rfl gv__without_nought rfl) pa_nil))) (pa_cons (pv 0) pa_nil)))))), ?_⟩
  walk_at "go"
  refine ⟨v, a, rfl, h1, by omega, fun hp H1 e1 => ?_, fun hp H1 e1 => q2 hp H1 e1⟩
  obtain ⟨ed, hlv⟩ := hpl hp
  walk_at "go"
  have h1' := Dp.same e1 _ _ h1
  refine ⟨v, a, true, rfl, h1', ed, hd, hlv, fun t b H2 e2 fb tb lb d2 => ?_⟩
  walk_at "go"
  refine ⟨_, b, rfl, d2, fb, by omega, fun t3 c H3 e3 fc tc lc d3 => ?_⟩
  walk_at "go"
  refine ⟨_, v, c, a, rfl, d3, Dp.same (e2.trans e3) _ _ h1', by have := ft_dep (fun a h => satom_dep h) fc; omega, by omega, fun H4 e4 => ?_⟩
  refine q1 hp t3 c H4 (e1.trans (e2.trans (e3.trans e4))) fc (fun f => ?_) (by omega) (Dp.same e4 _ _ d3)
  rw [tc f, tb f]
  cases tru f a <;> rfl

abbrev s__law_plain_is : Stmt := topS 125
abbrev N__law_plain_is : List Str := ["_law_statement", "_law_names", "_law_kind", "_law_part"]
abbrev P__law_plain_is : List Str := ["_law_statement", "_law_names"]
theorem sc__law_plain_is : FnScope N__law_plain_is P__law_plain_is (defScope s__law_plain_is) := ⟨rfl, rfl, rfl, by decide +kernel, rfl, by decide +kernel, by decide +kernel⟩
theorem plainis_step {n : Nat} (F : FunAt K mg "_law_plain_is" s__law_plain_is P__law_plain_is) (Z : Bl mg) (D__law_whole : DefAt P w K mg base CX0 1 "_law_whole" P__law_whole sp_whole) (D__law_sum_is : DefAt P w K mg base CX0 2 "_law_sum_is" P__law_sum_is (sp_sum_is K))
    (D__law_plain_is : DefAt P w K mg base CX0 (n + 2) "_law_plain_is" P__law_plain_is (sp_plain_is n K)) : DefAt P w K mg base CX0 (n + 3) "_law_plain_is" P__law_plain_is (sp_plain_is (n + 1) K) := by
  refine F.ok sc__law_plain_is (fun vs H Q E h => ?_) (fun f cdv A outer s H vs Q E hr h => ?_)
  · obtain ⟨_, _, _, _, rfl, _⟩ := h
    rfl
  obtain ⟨v, nl, a, names, rfl, h1, hn, ev, pl, hd, q⟩ := h
  refine ⟨_, (pss_cons (ps_if (PW.pt (pw_or (pt_not (pt_val (pe_callB (call_isiK K) (by rfl) Z.isinstance (by decide +kernel) (pa_cons (pv 0) (pa_cons (pe_bltn (v := .ty "tuple") rfl Z.tuple (by decide +kernel) rfl) pa_nil))))) (pw_or (pt_cmpR op_lt (pe_callB (call_lenK K) (by rfl) Z.len PySem.boot_len (pa_cons (pv 0) pa_nil)) pe_int (nomark _)) (pw_or1 (pt_not (pt_val (pe_callB (call_isiK K) (by rfl) Z.isinstance (by decide +kernel) (pa_cons (pe_ix (ix_tupK K) (pv 0) pe_int (fun _ _ => rfl)) (pa_cons (pe_bltn (v := .ty "str") rfl Z.str (by decide +kernel) rfl) pa_nil)))))))))
          (pss_one (ps_ret pe_bl)) pss_nil)
        (pss_cons (ps_set (i := 2) sc__law_plain_is.nd rfl (Or.inl rfl) (pe_ix (ix_tupK K) (pv 0) pe_int (fun _ _ => rfl)))
        (pss_cons (ps_if (PW.pt (pw_and (pt_cmpR op_eq (pv 2) pe_str (nomark _)) (pw_and1 (pt_cmpR op_eq (pe_callB (call_lenK K) (by rfl) Z.len PySem.boot_len (pa_cons (pv 0) pa_nil)) pe_int (nomark _)))))
          (pss_one (ps_ret (pe_and (pe_callD D__law_whole (hr.mono (by first | exact Nat.le_refl _ | omega | decide)) rfl pass0 (pa_cons (pe_ix (ix_tupK K) (pv 0) pe_int (fun _ _ => rfl)) pa_nil)) (pe_and (pe_cmpR op_gt (pe_ix (ix_tupK K) (pv 0) pe_int (fun _ _ => rfl)) pe_int (nomark _)) (pe_one (pe_callD D__law_sum_is (hr.mono (by first | exact Nat.le_refl _ | omega | decide)) rfl pass0 (pa_cons (pe_ix (ix_tupK K) (pv 0) pe_int (fun _ _ => rfl)) (pa_cons (pv 1) pa_nil)))))))) pss_nil)
        (pss_cons (ps_if (pt_cmpR op_ne (pe_callB (call_lenK K) (by rfl) Z.len PySem.boot_len (pa_cons (pv 0) pa_nil)) pe_int (nomark _))
          (pss_one (ps_ret pe_bl)) pss_nil)
        (pss_cons (ps_if (pt_cmpR op_eq (pv 2) pe_str (nomark _))
          (pss_one (ps_ret (pe_callD D__law_plain_is (hr.mono (by first | exact Nat.le_refl _ | omega | decide)) rfl pass0 (pa_cons (pe_ix (ix_tupK K) (pv 0) pe_int (fun _ _ => rfl)) (pa_cons (pv 1) pa_nil))))) pss_nil)
        (pss_cons (ps_if (PW.pt (pw_or (pt_cmpR op_eq (pv 2) pe_str (nomark _)) (pw_or1 (pt_cmpR op_eq (pv 2) pe_str (nomark _)))))
          (pss_cons (ps_if (pt_not (pt_val (pe_callB (call_isiK K) (by rfl) Z.isinstance (by decide +kernel) (pa_cons (pe_ix (ix_tupK K) (pv 0) pe_int (fun _ _ => rfl)) (pa_cons (pe_bltn (v := .ty "tuple") rfl Z.tuple (by decide +kernel) rfl) pa_nil)))))
          (pss_one (ps_ret pe_bl)) pss_nil)
        (pss_cons (ps_for PassesOwn.never rfl (pi_tupK K (pe_ix (ix_tupK K) (pv 0) pe_int (fun _ _ => rfl))) (pg_name (i := 3) sc__law_plain_is.nd rfl (Or.inl rfl))
          (pss_one (ps_if (pt_not (pt_val (pe_callD D__law_plain_is (hr.mono (by first | exact Nat.le_refl _ | omega | decide)) rfl pass0 (pa_cons (pv 3) (pa_cons (pv 1) pa_nil)))))
          (pss_one (ps_ret pe_bl)) pss_nil)))
        (pss_one (ps_ret pe_bl)))) pss_nil)
        (pss_one (ps_ret (pe_and (pe_or (pe_cmpR op_eq (pv 2) pe_str (nomark _)) (pe_one (pe_cmpR op_eq (pv 2) pe_str (nomark _)))) (pe_one (pe_callD D__law_sum_is (hr.mono (by first | exact Nat.le_refl _ | omega | decide)) rfl pass0 (pa_cons (pe_ix (ix_tupK K) (pv 0) pe_int (fun _ _ => rfl)) (pa_cons (pv 1) pa_nil))))))))))))), ?_⟩
  obtain ⟨p, us, rfl, hp, ds, eds, hds⟩ := Dp.stm h1
  walk_at "go"
  refine XS.x_isi (XS.tyx_T hp) XS.k_tup_tup ?_
  walk_at "go"
  refine XS.x_lenT hp ?_
  walk_at "go"
  have l2 : 1 ≤ us.length ∧ us.length ≤ 2 ∧ (us.length = 2 ↔ isGo a = true ∨ isB a = true) := by
    have := hds.len
    cases a <;> cases eds <;> simp [isGo, isB] at this ⊢ <;> omega
  refine XS.x_no (decide_eq_false (by simp; omega)) ?_
  walk_at "go"
  refine XS.x_ixT hp (XS.atI_get (i := 0) rfl) ?_
  walk_at "go"
  refine XS.x_isi (.base (.str _)) XS.k_str_str ?_
  walk_at "go"
  refine XS.x_ixT hp (XS.atI_get (i := 0) rfl) ?_
  walk_at "go"
  rw [isGo_eq]
  cases ev with
  | bnd _ => cases pl
  | @goes m s h hm =>
    refine XS.x_yes rfl ?_
    walk_at "go"
    refine XS.x_lenT hp ?_
    walk_at "go"
    have e2 : us.length = 2 := l2.2.2.mpr (.inl rfl)
    refine XS.x_yes (decide_eq_true (by simp; omega)) ?_
    walk_at "go"
    cases eds
    cases hds with
    | cons g1 g2 =>
    cases g1
    cases g2 with
    | cons g3 g4 =>
    cases g4
    refine XS.x_ixT hp (XS.atI_get (i := 1) rfl) ?_
    walk_at "go"
    refine ⟨m, rfl, ?_⟩
    walk_at "go"
    refine XS.x_ixT hp (XS.atI_get (i := 1) rfl) ?_
    walk_at "go"
    refine XS.x_yes (decide_eq_true hm) ?_
    walk_at "go"
    refine XS.x_ixT hp (XS.atI_get (i := 2) rfl) ?_
    walk_at "go"
    exact ⟨_, nl, s, names, rfl, g3, hn, h.1, h.2, q⟩
  | @above s h =>
    refine XS.x_no rfl ?_
    walk_at "go"
    refine XS.x_lenT hp ?_
    walk_at "go"
    have e2 : us.length = 1 := by have := l2.2.2; simp [isGo, isB] at this; omega
    refine XS.x_no (by simp; omega) ?_
    walk_at "go"
    rw [is_not]
    refine XS.x_no rfl ?_
    walk_at "go"
    rw [isAnd_eq]
    refine XS.x_no rfl ?_
    walk_at "go"
    rw [isOr_eq]
    refine XS.x_no rfl ?_
    walk_at "go"
    rw [isAb_eq]
    refine XS.x_yes rfl ?_
    walk_at "go"
    cases eds
    cases hds with
    | cons g1 g2 =>
    refine XS.x_ixT hp (XS.atI_get (i := 1) rfl) ?_
    walk_at "go"
    exact ⟨_, nl, s, names, rfl, g1, hn, h.1, h.2, q⟩
  | @nought s h =>
    refine XS.x_no rfl ?_
    walk_at "go"
    refine XS.x_lenT hp ?_
    walk_at "go"
    have e2 : us.length = 1 := by have := l2.2.2; simp [isGo, isB] at this; omega
    refine XS.x_no (by simp; omega) ?_
    walk_at "go"
    rw [is_not]
    refine XS.x_no rfl ?_
    walk_at "go"
    rw [isAnd_eq]
    refine XS.x_no rfl ?_
    walk_at "go"
    rw [isOr_eq]
    refine XS.x_no rfl ?_
    walk_at "go"
    rw [isAb_eq]
    refine XS.x_no rfl ?_
    walk_at "go"
    rw [isNo_eq]
    refine XS.x_yes rfl ?_
    walk_at "go"
    cases eds
    cases hds with
    | cons g1 g2 =>
    refine XS.x_ixT hp (XS.atI_get (i := 1) rfl) ?_
    walk_at "go"
    exact ⟨_, nl, s, names, rfl, g1, hn, h.1, h.2, q⟩
  | @neg c ec =>
    refine XS.x_no rfl ?_
    walk_at "go"
    refine XS.x_lenT hp ?_
    walk_at "go"
    have e2 : us.length = 1 := by have := l2.2.2; simp [isGo, isB] at this; omega
    refine XS.x_no (by simp; omega) ?_
    walk_at "go"
    rw [is_not]
    refine XS.x_yes rfl ?_
    walk_at "go"
    cases eds
    cases hds with
    | cons g1 g2 =>
    refine XS.x_ixT hp (XS.atI_get (i := 1) rfl) ?_
    walk_at "go"
    exact ⟨_, nl, c, names, rfl, g1, hn, ec, pl, Nat.le_of_succ_le_succ hd, q⟩
  | @con o l el _ =>
    refine XS.x_no rfl ?_
    walk_at "go"
    refine XS.x_lenT hp ?_
    walk_at "go"
    have e2 : us.length = 1 := by have := l2.2.2; simp [isGo, isB] at this; omega
    refine XS.x_no (by simp; omega) ?_
    walk_at "go"
    rw [is_not]
    refine XS.x_no rfl ?_
    walk_at "go"
    rw [isAnd_eq]
    cases eds
    cases hds with
    | cons g1 g2 =>
    rw [toDs_map] at g1
    cases g1 with
    | tup hs ha =>
    have l1 := ha.len
    rw [List.length_map] at l1
    refine XS.x_2 (fun e2 => ?_) (fun e2 => ?_)
    case' refine_2 =>
      walk_at "go"
      rw [isOr_eq]
      refine XS.x_yes (by cases o with | true => cases e2 | false => rfl) ?_
    all_goals
      walk_at "go"
      refine XS.x_ixT hp (XS.atI_get (i := 1) rfl) ?_
      walk_at "go"
      refine XS.x_isi (XS.tyx_T hs) XS.k_tup_tup ?_
      walk_at "go"
      refine XS.x_ixT hp (XS.atI_get (i := 1) rfl) ?_
      refine XS.x_forT hs (fun i σ H' => ∃ y3 : Option V, σ = [some (.ref p), some (.ref nl), some (.str (headW (Stm.con o l))), y3] ∧ H' = H) ⟨none, rfl, rfl⟩ (fun i σ H' _ ⟨_, _, e⟩ => by rw [e]; exact hs) ?_ ?_
      · rintro i u σ H' hi ⟨y3, rfl, rfl⟩
        have hlt : i < l.length := by rw [← l1]; exact (List.getElem?_eq_some_iff.mp hi).1
        have hc : l[i]? = some l[i] := List.getElem?_eq_getElem hlt
        generalize l[i] = c at hc
        have hmem := List.mem_of_getElem? hc
        obtain ⟨dd, hdd, du⟩ := ha.getV hi
        rw [List.getElem?_map, hc] at hdd
        cases hdd
        walk_at "go"
        refine ⟨u, nl, c, names, rfl, du, hn, el c hmem, plain_part pl hmem, by have := dep_in hmem; exact Nat.le_of_succ_le_succ (Nat.le_trans (Nat.succ_le_succ this) hd), ?_⟩
        walk_at "go"
        exact ⟨_, rfl, rfl⟩
      · rintro σ H' ⟨y3, rfl, rfl⟩
        walk_at "go"
        exact q
theorem plainis_all (F : FunAt K mg "_law_plain_is" s__law_plain_is P__law_plain_is) (Z : Bl mg) (D__law_whole : DefAt P w K mg base CX0 1 "_law_whole" P__law_whole sp_whole) (D__law_sum_is : DefAt P w K mg base CX0 2 "_law_sum_is" P__law_sum_is (sp_sum_is K)) : ∀ n, DefAt P w K mg base CX0 (n + 2) "_law_plain_is" P__law_plain_is (sp_plain_is n K)
  | 0 => F.never fun vs H Q E h => by
    obtain ⟨_, _, a, _, _, _, _, _, _, hd, _⟩ := h
    have := dep_pos a
    omega
  | n + 1 => plainis_step F Z D__law_whole D__law_sum_is (plainis_all F Z D__law_whole D__law_sum_is n)

abbrev s__law_straight_is : Stmt := topS 130
abbrev N__law_straight_is : List Str := ["_law_statement", "_law_kind", "_law_part"]
abbrev P__law_straight_is : List Str := ["_law_statement"]
theorem sc__law_straight_is : FnScope N__law_straight_is P__law_straight_is (defScope s__law_straight_is) := ⟨rfl, rfl, rfl, by decide +kernel, rfl, by decide +kernel, by decide +kernel⟩
theorem strtis_step {n : Nat} (F : FunAt K mg "_law_straight_is" s__law_straight_is P__law_straight_is) (Z : Bl mg) (D__law_straight_is : DefAt P w K mg base CX0 (n + 1) "_law_straight_is" P__law_straight_is (sp_straight_is n K)) :
    DefAt P w K mg base CX0 (n + 2) "_law_straight_is" P__law_straight_is (sp_straight_is (n + 1) K) := by
  refine F.ok sc__law_straight_is (fun vs H Q E h => ?_) (fun f cdv A outer s H vs Q E hr h => ?_)
  · obtain ⟨_, _, rfl, _⟩ := h
    rfl
  obtain ⟨v, a, rfl, h1, st, hd, q⟩ := h
  refine ⟨_, (pss_cons (ps_set (i := 1) sc__law_straight_is.nd rfl (Or.inl rfl) (pe_ix (ix_tupK K) (pv 0) pe_int (fun _ _ => rfl)))
        (pss_cons (ps_if (PW.pt (pw_or (pt_cmpR op_eq (pv 1) pe_str (nomark _)) (pw_or1 (pt_cmpR op_eq (pv 1) pe_str (nomark _)))))
          (pss_cons (ps_for PassesOwn.never rfl (pi_tupK K (pe_ix (ix_tupK K) (pv 0) pe_int (fun _ _ => rfl))) (pg_name (i := 2) sc__law_straight_is.nd rfl (Or.inl rfl))
          (pss_one (ps_if (pt_not (pt_val (pe_callD D__law_straight_is (hr.mono (by first | exact Nat.le_refl _ | omega | decide)) rfl pass0 (pa_cons (pv 2) pa_nil))))
          (pss_one (ps_ret pe_bl)) pss_nil)))
        (pss_one (ps_ret pe_bl))) pss_nil)
        (pss_cons (ps_if (pt_cmpR op_eq (pv 1) pe_str (nomark _))
          (pss_one (ps_ret (pe_cmpR op_eq (pe_ix (ix_tupK K) (pe_ix (ix_tupK K) (pv 0) pe_int (fun _ _ => rfl)) pe_int (fun _ _ => rfl)) pe_str (nomark _)))) pss_nil)
        (pss_one (ps_ret (pe_or (pe_cmpR op_eq (pv 1) pe_str (nomark _)) (pe_one (pe_cmpR op_eq (pv 1) pe_str (nomark _))))))))), ?_⟩
  obtain ⟨p, us, rfl, hp, ds, eds, hds⟩ := Dp.stm h1
  walk_at "go"
  refine XS.x_ixT hp (XS.atI_get (i := 0) rfl) ?_
  walk_at "go"
  rw [isAnd_eq]
  cases st with
  | above =>
    refine XS.x_no rfl ?_
    walk_at "go"
    rw [isOr_eq]
    refine XS.x_no rfl ?_
    walk_at "go"
    rw [is_not]
    refine XS.x_no rfl ?_
    walk_at "go"
    rw [isAb_eq]
    refine XS.x_yes rfl ?_
    exact q
  | goes =>
    refine XS.x_no rfl ?_
    walk_at "go"
    rw [isOr_eq]
    refine XS.x_no rfl ?_
    walk_at "go"
    rw [is_not]
    refine XS.x_no rfl ?_
    walk_at "go"
    rw [isAb_eq]
    refine XS.x_no rfl ?_
    walk_at "go"
    rw [isGo_eq]
    exact q
  | ng =>
    refine XS.x_no rfl ?_
    walk_at "go"
    rw [isOr_eq]
    refine XS.x_no rfl ?_
    walk_at "go"
    rw [is_not]
    refine XS.x_yes rfl ?_
    walk_at "go"
    cases eds
    cases hds with
    | cons g1 g2 =>
    refine XS.x_ixT hp (XS.atI_get (i := 1) rfl) ?_
    walk_at "go"
    obtain ⟨p2, us2, rfl, hp2, _⟩ := Dp.stm g1
    refine XS.x_ixT hp2 (XS.atI_get (i := 0) rfl) ?_
    walk_at "go"
    rw [isGo_eq]
    exact q
  | @con o l el =>
    cases eds
    cases hds with
    | cons g1 g2 =>
    rw [toDs_map] at g1
    cases g1 with
    | tup hs ha =>
    have l1 := ha.len
    rw [List.length_map] at l1
    refine XS.x_2 (fun e2 => ?_) (fun e2 => ?_)
    case' refine_2 =>
      walk_at "go"
      rw [isOr_eq]
      refine XS.x_yes (by cases o with | true => cases e2 | false => rfl) ?_
    all_goals
      walk_at "go"
      refine XS.x_ixT hp (XS.atI_get (i := 1) rfl) ?_
      refine XS.x_forT hs (fun i σ H' => ∃ y2 : Option V, σ = [some (.ref p), some (.str (headW (Stm.con o l))), y2] ∧ H' = H) ⟨none, rfl, rfl⟩ (fun i σ H' _ ⟨_, _, e⟩ => by rw [e]; exact hs) ?_ ?_
      · rintro i u σ H' hi ⟨y2, rfl, rfl⟩
        have hlt : i < l.length := by rw [← l1]; exact (List.getElem?_eq_some_iff.mp hi).1
        have hc : l[i]? = some l[i] := List.getElem?_eq_getElem hlt
        generalize l[i] = c at hc
        have hmem := List.mem_of_getElem? hc
        obtain ⟨dd, hdd, du⟩ := ha.getV hi
        rw [List.getElem?_map, hc] at hdd
        cases hdd
        walk_at "go"
        refine ⟨u, c, rfl, du, el c hmem, by have := dep_in hmem; exact Nat.le_of_succ_le_succ (Nat.le_trans (Nat.succ_le_succ this) hd), ?_⟩
        walk_at "go"
        exact ⟨_, rfl, rfl⟩
      · rintro σ H' ⟨y2, rfl, rfl⟩
        walk_at "go"
        exact q
theorem strtis_all (F : FunAt K mg "_law_straight_is" s__law_straight_is P__law_straight_is) (Z : Bl mg) : ∀ n, DefAt P w K mg base CX0 (n + 1) "_law_straight_is" P__law_straight_is (sp_straight_is n K)
  | 0 => F.never fun vs H Q E h => by
    obtain ⟨_, a, _, _, _, hd, _⟩ := h
    have := dep_pos a
    omega
  | n + 1 => strtis_step F Z (strtis_all F Z n)
abbrev s__law_refused : Stmt := topS 131
abbrev N__law_refused : List Str := ["_law_statement", "_law_e"]
abbrev P__law_refused : List Str := ["_law_statement"]
theorem sc__law_refused : FnScope N__law_refused P__law_refused (defScope s__law_refused) := ⟨rfl, rfl, rfl, by decide +kernel, rfl, by decide +kernel, by decide +kernel⟩
theorem d__law_refused6 {N : Nat} {eS eV eP eN : Addr} (Y : Er K mg eS eV eP eN) (F : FunAt K mg "_law_refused" s__law_refused P__law_refused) (Z : Bl mg) (D_straight : DefAt P w K mg base (L2.CX P w) 64 "straight" P_straight (sp_straightE N K eP))
    (D__law_word_of : DefP P w K mg base 1 "_law_word_of" P__law_word_of (sp_word_of eV eP eN)) : DefAt P w K mg base CX0 65 "_law_refused" P__law_refused (sp_refused6 K) := by
  refine F.ok sc__law_refused (fun vs H Q E h => ?_) (fun f cdv A outer s H vs Q E hr h => ?_)
  · obtain ⟨_, _, rfl, _⟩ := h
    rfl
  obtain ⟨v, a, rfl, h1, np, hn, q⟩ := h
  refine ⟨_, (pss_cons (ps_try_as (i := 1) rfl rfl sc__law_refused.nd rfl rfl ⟨rfl, by decide, .inl Y.g_SomeError⟩ L2.takes0 (fun W pn xe tk _ => (pss_one (ps_expr (pe_callX D_straight (hr.mono (by first | exact Nat.le_refl _ | omega | decide)) rfl (fun σ => passAt tk σ) (pa_cons (pv 0) pa_nil)))))
          (fun a oe cls d pn hz hf => (pss_one (ps_ret (pe_callP D__law_word_of List.mem_cons_self hz hf (roomH_mark hr (by first | exact Nat.le_refl _ | omega | decide)) rfl (pa_cons (pv 1) pa_nil))))))
        (pss_one (ps_ret pe_str))), ?_⟩
  walk_at "go"
  refine ⟨[], by decide, v, a, rfl, h1, hn, fun hp => (by rw [np] at hp; cases hp), fun hp => (by rw [np] at hp; cases hp), fun _ H1 e1 => ?_⟩
  refine ⟨true, Y.m_P, fun _ b hb => ?_, fun q => nomatch q⟩
  refine XS.x_ret ?_
  walk_at "go"
  exact ⟨rfl, .plain, rfl, fun H' e2 => q H' (e1.trans e2)⟩

abbrev s__law_sum_is : Stmt := topS 124
abbrev N__law_sum_is : List Str := ["_law_one", "_law_names", "_law_last", "_law_pair"]
abbrev P__law_sum_is : List Str := ["_law_one", "_law_names"]
theorem sc__law_sum_is : FnScope N__law_sum_is P__law_sum_is (defScope s__law_sum_is) := ⟨rfl, rfl, rfl, by decide +kernel, rfl, by decide +kernel, by decide +kernel⟩
theorem d__law_sum_is (F : FunAt K mg "_law_sum_is" s__law_sum_is P__law_sum_is) (Z : Bl mg) (D__law_whole : DefAt P w K mg base CX0 1 "_law_whole" P__law_whole sp_whole) : DefAt P w K mg base CX0 2 "_law_sum_is" P__law_sum_is (sp_sum_is K) := by
  refine F.ok sc__law_sum_is (fun vs H Q E h => ?_) (fun f cdv A outer s H vs Q E hr h => ?_)
  · obtain ⟨_, _, _, _, rfl, _⟩ := h
    rfl
  obtain ⟨v, nl, s1, names, rfl, h1, hn, no, hin, q⟩ := h
  obtain ⟨a, b, us, rfl, a1, a2, a3⟩ := h1.sum
  have l1 := a3.len
  rw [List.length_map] at l1
  refine ⟨_, (pss_cons (ps_if (PW.pt (pw_or (pt_not (pt_val (pe_callB (call_isiK K) (by rfl) Z.isinstance (by decide +kernel) (pa_cons (pv 0) (pa_cons (pe_bltn (v := .ty "tuple") rfl Z.tuple (by decide +kernel) rfl) pa_nil))))) (pw_or (pt_cmpR op_ne (pe_callB (call_lenK K) (by rfl) Z.len PySem.boot_len (pa_cons (pv 0) pa_nil)) pe_int (nomark _)) (pw_or (pt_not (pt_val (pe_callD D__law_whole (hr.mono (by first | exact Nat.le_refl _ | omega | decide)) rfl pass0 (pa_cons (pe_ix (ix_tupK K) (pv 0) pe_int (fun _ _ => rfl)) pa_nil)))) (pw_or1 (pt_not (pt_val (pe_callB (call_isiK K) (by rfl) Z.isinstance (by decide +kernel) (pa_cons (pe_ix (ix_tupK K) (pv 0) pe_int (fun _ _ => rfl)) (pa_cons (pe_bltn (v := .ty "tuple") rfl Z.tuple (by decide +kernel) rfl) pa_nil))))))))))
          (pss_one (ps_ret pe_bl)) pss_nil)
        (pss_cons (ps_set (i := 2) sc__law_sum_is.nd rfl (Or.inl rfl) pe_str)
        (pss_cons (ps_for PassesOwn.never rfl (pi_tupK K (pe_ix (ix_tupK K) (pv 0) pe_int (fun _ _ => rfl))) (pg_name (i := 3) sc__law_sum_is.nd rfl (Or.inl rfl))
          (pss_cons (ps_if (PW.pt (pw_or (pt_not (pt_val (pe_callB (call_isiK K) (by rfl) Z.isinstance (by decide +kernel) (pa_cons (pv 3) (pa_cons (pe_bltn (v := .ty "tuple") rfl Z.tuple (by decide +kernel) rfl) pa_nil))))) (pw_or (pt_cmpR op_ne (pe_callB (call_lenK K) (by rfl) Z.len PySem.boot_len (pa_cons (pv 3) pa_nil)) pe_int (nomark _)) (pw_or1 (pt_not (pt_val (pe_callB (call_isiK K) (by rfl) Z.isinstance (by decide +kernel) (pa_cons (pe_ix (ix_tupK K) (pv 3) pe_int (fun _ _ => rfl)) (pa_cons (pe_bltn (v := .ty "str") rfl Z.str (by decide +kernel) rfl) pa_nil)))))))))
          (pss_one (ps_ret pe_bl)) pss_nil)
        (pss_cons (ps_if (PW.pt (pw_or (pt_not (pt_val (pe_callD D__law_whole (hr.mono (by first | exact Nat.le_refl _ | omega | decide)) rfl pass0 (pa_cons (pe_ix (ix_tupK K) (pv 3) pe_int (fun _ _ => rfl)) pa_nil)))) (pw_or (pt_cmpR op_eq (pe_ix (ix_tupK K) (pv 3) pe_int (fun _ _ => rfl)) pe_int (nomark _)) (pw_or (pt_cmpR op_le_str (pe_ix (ix_tupK K) (pv 3) pe_int (fun _ _ => rfl)) (pv 2) (nomark _)) (pw_or1 (pt_cmpR (op_notInK K) (pe_ix (ix_tupK K) (pv 3) pe_int (fun _ _ => rfl)) (pv 1) (by rfl)))))))
          (pss_one (ps_ret pe_bl)) pss_nil)
        (pss_one (ps_set (i := 2) sc__law_sum_is.nd rfl (Or.inl rfl) (pe_ix (ix_tupK K) (pv 3) pe_int (fun _ _ => rfl)))))))
        (pss_one (ps_ret pe_bl))))), ?_⟩
  walk_at "go"
  refine XS.x_isi (XS.tyx_T a1) XS.k_tup_tup ?_
  walk_at "go"
  refine XS.x_lenT a1 ?_
  walk_at "go"
  refine XS.x_no (by simp) ?_
  walk_at "go"
  refine XS.x_ixT a1 (XS.atI_get (i := 0) rfl) ?_
  walk_at "go"
  refine ⟨_, rfl, ?_⟩
  walk_at "go"
  refine XS.x_ixT a1 (XS.atI_get (i := 1) rfl) ?_
  walk_at "go"
  refine XS.x_isi (XS.tyx_T a2) XS.k_tup_tup ?_
  walk_at "go"
  refine XS.x_ixT a1 (XS.atI_get (i := 1) rfl) ?_
  refine XS.x_forT a2 (fun i σ H' => ∃ y3 : Option V, σ = [some (.ref a), some (.ref nl), some (.str (lastN s1.2 i)), y3] ∧ H' = H) ⟨none, rfl, rfl⟩ (fun i σ H' _ ⟨_, _, e⟩ => by rw [e]; exact a2) ?_ ?_
  · rintro i u σ H' hi ⟨y3, rfl, rfl⟩
    have hlt : i < s1.2.length := by rw [← l1]; exact (List.getElem?_eq_some_iff.mp hi).1
    have hp : s1.2[i]? = some s1.2[i] := List.getElem?_eq_getElem hlt
    generalize s1.2[i] = p at hp
    have hmem := List.mem_of_getElem? hp
    obtain ⟨c, rfl, hc⟩ := (pair_at a3 hp hi).pair
    obtain ⟨m1, m2⟩ := hin p hmem
    walk_at "go"
    refine XS.x_isi (XS.tyx_T hc) XS.k_tup_tup ?_
    walk_at "go"
    refine XS.x_lenT hc ?_
    walk_at "go"
    refine XS.x_no (by simp) ?_
    walk_at "go"
    refine XS.x_ixT hc (XS.atI_get (i := 0) rfl) ?_
    walk_at "go"
    refine XS.x_isi (.base (.str p.1)) XS.k_str_str ?_
    walk_at "go"
    refine XS.x_ixT hc (XS.atI_get (i := 1) rfl) ?_
    walk_at "go"
    refine ⟨_, rfl, ?_⟩
    walk_at "go"
    refine XS.x_ixT hc (XS.atI_get (i := 1) rfl) ?_
    walk_at "go"
    refine XS.x_no (by simpa using no.nz p hmem) ?_
    walk_at "go"
    refine XS.x_ixT hc (XS.atI_get (i := 0) rfl) ?_
    walk_at "go"
    refine ⟨_, _, rfl, rfl, ?_⟩
    walk_at "go"
    refine XS.x_no (by rw [decide_eq_true (lastN_lt no hp m2)]; rfl) ?_
    walk_at "go"
    refine XS.x_ixT hc (XS.atI_get (i := 0) rfl) ?_
    walk_at "go"
    refine ⟨nl, names.map V.str, rfl, .inl hn, rfl, flat_strs _, ?_⟩
    rw [inV_str, decide_eq_true m1]
    walk_at "go"
    refine XS.x_no rfl ?_
    walk_at "go"
    refine XS.x_ixT hc (XS.atI_get (i := 0) rfl) ?_
    walk_at "go"
    refine ⟨some (.ref c), ?_, rfl⟩
    rw [lastN_next hp]
    rfl
  · rintro σ H' ⟨y3, rfl, rfl⟩
    walk_at "go"
    exact q

abbrev s__law_true : Stmt := topS 122
abbrev N__law_true : List Str := ["_law_statement", "_law_values", "_law_kind", "_law_number", "_law_part"]
abbrev P__law_true : List Str := ["_law_statement", "_law_values"]
theorem sc__law_true : FnScope N__law_true P__law_true (defScope s__law_true) := ⟨rfl, rfl, rfl, by decide +kernel, rfl, by decide +kernel, by decide +kernel⟩
theorem ltrueU_step {n : Nat} (F : FunAt K mg "_law_true" s__law_true P__law_true) (Z : Bl mg) (D__law_value : DefAt P w K mg base CX0 1 "_law_value" P__law_value (sp_lvalue K)) (D__law_true : DefAt P w K mg base CX0 (n + 1) "_law_true" P__law_true (sp_truthU n K)) :
    DefAt P w K mg base CX0 (n + 2) "_law_true" P__law_true (sp_truthU (n + 1) K) := by
  refine F.ok sc__law_true (fun vs H Q E h => ?_) (fun f cdv A outer s H vs Q E hr h => ?_)
  · obtain ⟨_, _, _, _, rfl, _⟩ := h
    rfl
  obtain ⟨v, d, a, m, rfl, h1, hd, sm, ev, pl, hn, q⟩ := h
  refine ⟨_, (pss_cons (ps_set (i := 2) sc__law_true.nd rfl (Or.inl rfl) (pe_ix (ix_tupK K) (pv 0) pe_int (fun _ _ => rfl)))
        (pss_cons (ps_if (pt_cmpR op_eq (pv 2) pe_str (nomark _))
          (pss_one (ps_ret (pe_not (pe_callD D__law_true (hr.mono (by first | exact Nat.le_refl _ | omega | decide)) rfl pass0 (pa_cons (pe_ix (ix_tupK K) (pv 0) pe_int (fun _ _ => rfl)) (pa_cons (pv 1) pa_nil)))))) pss_nil)
        (pss_cons (ps_if (PW.pt (pw_or (pt_cmpR op_eq (pv 2) pe_str (nomark _)) (pw_or1 (pt_cmpR op_eq (pv 2) pe_str (nomark _)))))
          (pss_cons (ps_for PassesOwn.never rfl (pi_tupK K (pe_ix (ix_tupK K) (pv 0) pe_int (fun _ _ => rfl))) (pg_name (i := 4) sc__law_true.nd rfl (Or.inl rfl))
          (pss_one (ps_if (pt_cmpR op_eq (pe_callD D__law_true (hr.mono (by first | exact Nat.le_refl _ | omega | decide)) rfl pass0 (pa_cons (pv 4) (pa_cons (pv 1) pa_nil))) (pe_cmpR op_eq (pv 2) pe_str (nomark _)) (nomark _))
          (pss_one (ps_ret (pe_cmpR op_eq (pv 2) pe_str (nomark _)))) pss_nil)))
        (pss_one (ps_ret (pe_cmpR op_eq (pv 2) pe_str (nomark _))))) pss_nil)
        (pss_cons (ps_set (i := 3) sc__law_true.nd rfl (Or.inl rfl) (pe_callD D__law_value (hr.mono (by first | exact Nat.le_refl _ | omega | decide)) rfl pass0 (pa_cons (pe_ix (ix_tupK K) (pv 0) (pe_un un_neg pe_int) (fun _ _ => rfl)) (pa_cons (pv 1) pa_nil))))
        (pss_cons (ps_if (pt_cmpR op_eq (pv 2) pe_str (nomark _))
          (pss_one (ps_ret (pe_cmpR op_eq (pe_op op_modN (pv 3) (pe_ix (ix_tupK K) (pv 0) pe_int (fun _ _ => rfl))) pe_int (nomark _)))) pss_nil)
        (pss_cons (ps_if (pt_cmpR op_eq (pv 2) pe_str (nomark _))
          (pss_one (ps_ret (pe_cmpR op_gt (pv 3) pe_int (nomark _)))) pss_nil)
        (pss_one (ps_ret (pe_cmpR op_eq (pv 3) pe_int (nomark _)))))))))), ?_⟩
  obtain ⟨p, us, rfl, hp, ds, eds, hds⟩ := Dp.stm h1
  walk_at "go"
  refine XS.x_ixT hp (XS.atI_get (i := 0) rfl) ?_
  walk_at "go"
  rw [is_not]
  have fin : ∀ e : isEnd a = true, ∃ u, (∃ us', SqT K H p us' ∧ atI us' (-1) = some u) ∧ Dp K H u (sumD (sumOf a)) ∧ OkS m (sumOf a) := fun e => by
    obtain ⟨p', us', u, ep, hp', hlast, hsum⟩ := end_sum e h1
    cases ep
    refine ⟨u, ⟨us', hp', hlast⟩, hsum, ?_⟩
    cases ev with
    | above h | nought h | goes h _ => exact h
    | neg _ | con _ _ | bnd _ => cases e
  cases a with
  | bnd o x c => cases pl
  | neg c =>
    refine XS.x_yes rfl ?_
    walk_at "go"
    cases eds
    cases hds with
    | cons g1 g2 =>
    refine XS.x_ixT hp (XS.atI_get (i := 1) rfl) ?_
    walk_at "go"
    refine ⟨_, d, c, m, rfl, g1, hd, sm, ev.parts (by simp [parts]), pl, Nat.le_of_succ_le_succ hn, ?_⟩
    walk_at "go"
    exact q
  | above s =>
    refine XS.x_no rfl ?_
    walk_at "go"
    refine XS.x_no (isAnd_eq _) ?_
    walk_at "go"
    refine XS.x_no (isOr_eq _) ?_
    walk_at "go"
    obtain ⟨u, ⟨us', hp', hl'⟩, g1, ok⟩ := fin rfl
    refine XS.x_ixT hp' hl' ?_
    walk_at "go"
    refine ⟨u, d, s, m, rfl, g1, hd, ok.1, sm, fun z hz => (ok.2 z hz).1, ?_⟩
    walk_at "go"
    refine XS.x_no (isGo_eq _) ?_
    walk_at "go"
    refine XS.x_yes (isAb_eq _) ?_
    walk_at "go"
    exact q
  | nought s =>
    refine XS.x_no rfl ?_
    walk_at "go"
    refine XS.x_no (isAnd_eq _) ?_
    walk_at "go"
    refine XS.x_no (isOr_eq _) ?_
    walk_at "go"
    obtain ⟨u, ⟨us', hp', hl'⟩, g1, ok⟩ := fin rfl
    refine XS.x_ixT hp' hl' ?_
    walk_at "go"
    refine ⟨u, d, s, m, rfl, g1, hd, ok.1, sm, fun z hz => (ok.2 z hz).1, ?_⟩
    walk_at "go"
    refine XS.x_no (isGo_eq _) ?_
    walk_at "go"
    refine XS.x_no (isAb_eq _) ?_
    walk_at "go"
    exact q
  | goes k s =>
    refine XS.x_no rfl ?_
    walk_at "go"
    refine XS.x_no (isAnd_eq _) ?_
    walk_at "go"
    refine XS.x_no (isOr_eq _) ?_
    walk_at "go"
    obtain ⟨u, ⟨us', hp', hl'⟩, g1, ok⟩ := fin rfl
    refine XS.x_ixT hp' hl' ?_
    walk_at "go"
    refine ⟨u, d, s, m, rfl, g1, hd, ok.1, sm, fun z hz => (ok.2 z hz).1, ?_⟩
    walk_at "go"
    refine XS.x_yes (isGo_eq _) ?_
    walk_at "go"
    cases eds
    cases hds with
    | cons g3 g4 =>
    cases g3
    refine XS.x_ixT hp (XS.atI_get (i := 1) rfl) ?_
    have hk : 0 < k := by cases ev with | goes _ h => exact h
    refine XS.x_I (by omega) ?_
    walk_at "go"
    rw [Int.fmod_eq_emod_of_nonneg _ (by omega : 0 ≤ k)]
    exact q
  | con o l =>
    refine XS.x_no rfl ?_
    walk_at "go"
    rw [isAnd_eq]
    have eo : isOr (Stm.con o l) = !o := by cases o <;> rfl
    have ea : isAnd (Stm.con o l) = o := by cases o <;> rfl
    rw [ea]
    cases eds
    cases hds with
    | cons g1 g2 =>
    rw [toDs_map] at g1
    cases g1 with
    | tup hs ha =>
    have l1 := ha.len
    rw [List.length_map] at l1
    have et : tru (look m) (Stm.con o l) = if o = true then l.all (tru (look m)) else l.any (tru (look m)) := by
      show (if o = true then truAll (look m) l else truAny (look m) l) = _
      rw [truAll_eq, truAny_eq]
    have go : ∀ c ∈ l, plainB c = true ∧ Evu (OkS m) c ∧ dep c ≤ n := fun c hc => ⟨plain_part pl hc, ev.parts hc, by have := dep_in hc; exact Nat.le_of_succ_le_succ (Nat.le_trans (Nat.succ_le_succ this) hn)⟩
    have up : ∀ c ∈ l, tru (look m) c = !o → tru (look m) (Stm.con o l) = !o := fun c hmem ec => by
      rw [et]
      cases o with
      | true => exact Bool.eq_false_iff.mpr fun t => by rw [List.all_eq_true.mp t c hmem] at ec; cases ec
      | false => exact List.any_eq_true.mpr ⟨c, hmem, ec⟩
    have dn : (∀ c ∈ l, tru (look m) c = o) → tru (look m) (Stm.con o l) = o := fun al => by
      rw [et]
      cases o with
      | true => exact List.all_eq_true.mpr al
      | false =>
        refine Bool.eq_false_iff.mpr fun t => ?_
        obtain ⟨c, hc, h⟩ := List.any_eq_true.mp t
        rw [al c hc] at h
        cases h
    clear et fin
    refine XS.x_2 (fun e => ?_) (fun e => ?_)
    case' refine_2 =>
      walk_at "go"
      rw [isOr_eq, eo]
      refine XS.x_yes (by rw [e]; rfl) ?_
    all_goals
      walk_at "go"
      refine XS.x_ixT hp (XS.atI_get (i := 1) rfl) ?_
      refine XS.x_forT hs (fun i σ H' => ∃ y4 : Option V, σ = [some (.ref p), some (.ref d), some (.str (headW (Stm.con o l))), none, y4] ∧ H' = H ∧ ∀ c ∈ l.take i, tru (look m) c = o) ⟨none, rfl, rfl, fun c hc => by simp at hc⟩ (fun i σ H' _ ⟨_, _, e, _⟩ => by rw [e]; exact hs) ?_ ?_
      · rintro i u σ H' hi ⟨y4, rfl, rfl, al⟩
        have hlt : i < l.length := by rw [← l1]; exact (List.getElem?_eq_some_iff.mp hi).1
        have hc : l[i]? = some l[i] := List.getElem?_eq_getElem hlt
        generalize l[i] = c at hc
        have hmem := List.mem_of_getElem? hc
        obtain ⟨dd, hdd, du⟩ := ha.getV hi
        rw [List.getElem?_map, hc] at hdd
        cases hdd
        obtain ⟨gc1, gc2, gc3⟩ := go c hmem
        walk_at "go"
        refine ⟨u, d, c, m, rfl, du, hd, sm, gc2, gc1, gc3, ?_⟩
        walk_at "go"
        rw [isOr_eq, eo]
        refine XS.x_eqB ?_
        walk_at "go"
        refine XS.x_d (fun ec => ?_) (fun ec => ?_)
        · walk_at "go"
          rw [isOr_eq, eo]
          rw [up c hmem ec] at q
          exact q
        · walk_at "go"
          refine ⟨_, rfl, rfl, fun z hz => ?_⟩
          rw [XS.take_more hc] at hz
          rcases List.mem_append.mp hz with hz | hz
          · exact al z hz
          · rw [List.mem_singleton.mp hz]
            cases h1 : tru (look m) c <;> cases o <;> simp_all
      · rintro σ H' ⟨y4, rfl, rfl, al⟩
        walk_at "go"
        rw [l1, List.take_length] at al
        rw [isAnd_eq, ea]
        rw [dn al] at q
        exact q
theorem ltrueU_all (F : FunAt K mg "_law_true" s__law_true P__law_true) (Z : Bl mg) (D__law_value : DefAt P w K mg base CX0 1 "_law_value" P__law_value (sp_lvalue K)) : ∀ n, DefAt P w K mg base CX0 (n + 1) "_law_true" P__law_true (sp_truthU n K)
  | 0 => F.never fun vs H Q E h => by
    obtain ⟨_, _, a, _, _, _, _, _, _, _, hn, _⟩ := h
    have := dep_pos a
    omega
  | n + 1 => ltrueU_step F Z D__law_value (ltrueU_all F Z D__law_value n)

abbrev s_law : Stmt := topS 132
abbrev N_law : List Str := ["_law_script", "_law_names", "_law_most", "_law_statement", "_law_near", "_law_k", "_law_way", "_law_got", "_law_turn", "_law_edge", "_law_values"]
abbrev P_law : List Str := ["_law_script"]
theorem sc_law : FnScope N_law P_law (defScope s_law) := ⟨rfl, rfl, rfl, by decide +kernel, rfl, by decide +kernel, by decide +kernel⟩
theorem d_law {eS eV eP eN : Addr} (Y : Er K mg eS eV eP eN) {fl : Addr} {fdl : FuncData} (F : Fun K "law" "law" s_law fl fdl) (Z : Bl mg) (D__law_cell_at : DefAt P w K mg base CX0 1 "_law_cell_at" P__law_cell_at (sp_cell_at K)) (D__law_names_by : DefAt P w K mg base CX0 1 "_law_names_by" P__law_names_by sp_names_by)
    (D__law_big_by : DefAt P w K mg base CX0 1 "_law_big_by" P__law_big_by sp_big_by) (D__law_plain_by : DefAt P w K mg base CX0 3 "_law_plain_by" P__law_plain_by (sp_plain_by K)) (D__law_edge_by : DefAt P w K mg base CX0 2 "_law_edge_by" P__law_edge_by (sp_edge_by K))
    (D__law_bound_by : DefAt P w K mg base CX0 1 "_law_bound_by" P__law_bound_by (sp_bound_by K)) (D_straight : DefAt P w K mg base (L2.CX P w) 64 "straight" P_straight (sp_straightE (2 ^ 250) K eP))
    (D__law_refused : DefAt P w K mg base CX0 65 "_law_refused" P__law_refused (sp_refused6 K)) (D__law_free' : ∀ nm : List Str, nm.length ≤ 32 → DefAt P w K mg base CX0 61 "_law_free" P__law_free (sp_lfree 60 K nm)) (D__law_true : DefAt P w K mg base CX0 61 "_law_true" P__law_true (sp_truthU 60 K))
    (D__law_plain_is : DefAt P w K mg base CX0 62 "_law_plain_is" P__law_plain_is (sp_plain_is 60 K)) (D__law_straight_is : DefAt P w K mg base CX0 61 "_law_straight_is" P__law_straight_is (sp_straight_is 60 K)) : FnOk P w K mg base CX0 67 fl fdl P_law (sp_law K) := by
  refine F.ok sc_law (fun vs H Q E h => ?_) (fun cdv A outer s H vs Q E hr h => ?_)
  · obtain ⟨_, _, rfl, _⟩ := h
    rfl
  obtain ⟨a, ns, rfl, hS, h63, q⟩ := h
  have hu := hu_of hr
  have hW : ∀ x ∈ namesBy (cell ns 0), x.length ≤ 1000 ∧ x.cps.toList ≠ [] := fun y hy => by
    have h8 := namesBy_word hy
    have := h8.2.1
    refine ⟨by show y.cps.size ≤ 1000; rw [Array.length_toList] at this; omega, fun e => ?_⟩
    have h1 := h8.1
    rw [e] at h1
    simp at h1
  have D__law_free := D__law_free' (namesBy (cell ns 0)) (by rw [namesBy_len]; decide)
  refine ⟨_, (pss_cons (ps_set (i := 1) sc_law.nd rfl (Or.inl rfl) (pe_callD D__law_names_by (hr.mono (by first | exact Nat.le_refl _ | omega | decide)) rfl pass0 (pa_cons (pe_callD D__law_cell_at (hr.mono (by first | exact Nat.le_refl _ | omega | decide)) rfl pass0 (pa_cons (pv 0) (pa_cons pe_int pa_nil))) pa_nil)))
        (pss_cons (ps_set (i := 2) sc_law.nd rfl (Or.inl rfl) (pe_ix (ix_listK K) (pe_lst (pa_cons pe_int (pa_cons (pe_op op_pow pe_int pe_int) pa_nil))) (pe_op op_mod (pe_op op_fdiv (pe_callD D__law_cell_at (hr.mono (by first | exact Nat.le_refl _ | omega | decide)) rfl pass0 (pa_cons (pv 0) (pa_cons pe_int pa_nil))) pe_int) pe_int) (fun _ _ => rfl)))
        (pss_cons (ps_set (i := 3) sc_law.nd rfl (Or.inl rfl) (pe_callD D__law_plain_by (hr.mono (by first | exact Nat.le_refl _ | omega | decide)) rfl pass0 (pa_cons (pv 0) (pa_cons pe_int (pa_cons (pe_op op_add pe_int (pe_op op_mod (pe_callD D__law_cell_at (hr.mono (by first | exact Nat.le_refl _ | omega | decide)) rfl pass0 (pa_cons (pv 0) (pa_cons pe_int pa_nil))) pe_int)) (pa_cons (pe_slice (sl_listK K) (pv 1) po_none (po_some pe_int)) (pa_cons pe_int (pa_cons (pv 2) pa_nil))))))))
        (pss_cons (ps_if (pt_cmpR op_eq (pe_op op_mod (pe_callD D__law_cell_at (hr.mono (by first | exact Nat.le_refl _ | omega | decide)) rfl pass0 (pa_cons (pv 0) (pa_cons pe_int pa_nil))) pe_int) pe_int (nomark _))
          (pss_one (ps_ret (pe_cmpR op_eq (pe_callD D__law_refused (hr.mono (by first | exact Nat.le_refl _ | omega | decide)) rfl pass0 (pa_cons (pe_callD D__law_bound_by (hr.mono (by first | exact Nat.le_refl _ | omega | decide)) rfl pass0 (pa_cons (pe_callD D__law_cell_at (hr.mono (by first | exact Nat.le_refl _ | omega | decide)) rfl pass0 (pa_cons (pv 0) (pa_cons pe_int pa_nil))) (pa_cons (pv 3) (pa_cons (pv 1) pa_nil)))) pa_nil)) pe_str (nomark _)))) pss_nil)
        (pss_cons (ps_set (i := 4) sc_law.nd rfl (Or.inl rfl) pe_dnewK)
        (pss_cons (ps_for PassesOwn.never rfl (pi_range1 rfl Z.range (pa_cons pe_int pa_nil)) (pg_name (i := 5) sc_law.nd rfl (Or.inl rfl))
          (pss_one (ps_dput hu (pv 4) (pe_ix (ix_listK K) (pv 1) (pv 5) (fun _ _ => rfl)) (pe_callD D__law_big_by (hr.mono (by first | exact Nat.le_refl _ | omega | decide)) rfl pass0 (pa_cons (pe_callD D__law_cell_at (hr.mono (by first | exact Nat.le_refl _ | omega | decide)) rfl pass0 (pa_cons (pv 0) (pa_cons (pe_op op_add pe_int (pv 5)) pa_nil))) pa_nil)) rfl)))
        (pss_cons (ps_set (i := 6) sc_law.nd rfl (Or.inl rfl) (pe_op op_mod (pe_op op_fdiv (pe_callD D__law_cell_at (hr.mono (by first | exact Nat.le_refl _ | omega | decide)) rfl pass0 (pa_cons (pv 0) (pa_cons pe_int pa_nil))) pe_int) pe_int))
        (Evl.pss_cut (ps_if (pt_cmpR op_gt (pv 6) pe_int (nomark _))
          (pss_cons (ps_set (i := 9) sc_law.nd rfl (Or.inl rfl) (pe_callD D__law_edge_by (hr.mono (by first | exact Nat.le_refl _ | omega | decide)) rfl pass0 (pa_cons (pe_op op_fdiv (pe_callD D__law_cell_at (hr.mono (by first | exact Nat.le_refl _ | omega | decide)) rfl pass0 (pa_cons (pv 0) (pa_cons pe_int pa_nil))) pe_int) (pa_cons (pe_slice (sl_listK K) (pv 1) po_none (po_some pe_int)) (pa_cons (pv 4) pa_nil)))))
        (pss_one (ps_set (i := 3) sc_law.nd rfl (Or.inl rfl) (pe_ix (ix_listK K) (pe_lst (pa_cons (pe_tup (pa_cons pe_str (pa_cons (pe_tup (pa_cons pe_str (pa_cons (pe_tup (pa_cons (pv 9) (pa_cons (pv 3) pa_nil))) pa_nil))) pa_nil))) (pa_cons (pv 9) pa_nil))) (pe_op op_sub (pv 6) pe_int) (fun _ _ => rfl))))) pss_nil)
        (pss_cons (ps_set (i := 7) sc_law.nd rfl (Or.inl rfl) (pe_callD D_straight (hr.mono (by first | exact Nat.le_refl _ | omega | decide)) rfl passL (pa_cons (pv 3) pa_nil)))
        (pss_cons (ps_if (PW.pt (pw_or (pt_not (pt_val (pe_callD D__law_plain_is (hr.mono (by first | exact Nat.le_refl _ | omega | decide)) rfl pass0 (pa_cons (pv 7) (pa_cons (pe_callD D__law_free (hr.mono (by first | exact Nat.le_refl _ | omega | decide)) rfl pass0 (pa_cons (pv 3) (pa_cons (pe_lst pa_nil) pa_nil))) pa_nil))))) (pw_or1 (pt_not (pt_val (pe_callD D__law_straight_is (hr.mono (by first | exact Nat.le_refl _ | omega | decide)) rfl pass0 (pa_cons (pv 7) pa_nil)))))))
          (pss_one (ps_ret pe_bl)) pss_nil)
        (pss_cons (ps_for PassesOwn.never rfl (pi_range1 rfl Z.range (pa_cons pe_int pa_nil)) (pg_name (i := 8) sc_law.nd rfl (Or.inl rfl))
          (pss_cons (ps_set (i := 10) sc_law.nd rfl (Or.inl rfl) (pe_callTy call_dictD (by rfl) Z.dict (by decide +kernel) (pa_cons (pv 4) pa_nil)))
        (pss_cons (ps_for PassesOwn.never rfl (pi_range1 rfl Z.range (pa_cons (pe_ix (ix_listK K) (pe_lst (pa_cons pe_int (pa_cons pe_int pa_nil))) (pe_callTy call_int1 (by rfl) Z.int (by decide +kernel) (pa_cons (pe_cmpR op_gt (pv 8) pe_int (nomark _)) pa_nil)) (fun _ _ => rfl)) pa_nil)) (pg_name (i := 5) sc_law.nd rfl (Or.inl rfl))
          (pss_one (ps_dput hu (pv 10) (pe_ix (ix_listK K) (pv 1) (pv 5) (fun _ _ => rfl)) (pe_callD D__law_big_by (hr.mono (by first | exact Nat.le_refl _ | omega | decide)) rfl pass0 (pa_cons (pe_op op_add (pe_callD D__law_cell_at (hr.mono (by first | exact Nat.le_refl _ | omega | decide)) rfl pass0 (pa_cons (pv 0) (pa_cons (pe_op op_add (pe_op op_add pe_int (pe_op op_mulW pe_int (pv 8))) (pv 5)) pa_nil))) (pe_op op_mulW pe_int (pv 8))) pa_nil)) rfl)))
        (pss_one (ps_if (pt_cmpR op_ne (pe_callD D__law_true (hr.mono (by first | exact Nat.le_refl _ | omega | decide)) rfl pass0 (pa_cons (pv 7) (pa_cons (pv 10) pa_nil))) (pe_callD D__law_true (hr.mono (by first | exact Nat.le_refl _ | omega | decide)) rfl pass0 (pa_cons (pv 3) (pa_cons (pv 10) pa_nil))) (nomark _))
          (pss_one (ps_ret pe_bl)) pss_nil)))))
        (pss_one (ps_ret pe_bl))))))))))))), ?_⟩
  walk_at "go"
  refine ⟨a, ns, 0, rfl, by decide, hS, ?_⟩
  walk_at "go"
  refine ⟨_, rfl, fun nl H1 hnl e1 h1 => ?_⟩
  walk_at "go"
  have hLen : (namesBy (cell ns 0)).length = 4 := namesBy_len _
  have hNd : (namesBy (cell ns 0)).Nodup := namesBy_nd _
  generalize namesBy (cell ns 0) = nm at h1 hLen hNd hW D__law_free ⊢
  refine ⟨XS.sz (by simp), fun l2 hl2 => ?_⟩
  obtain ⟨e2, h2⟩ := XS.newly (o := HO.lst _) hl2
  generalize hGH2 : upd _ l2 _ = H2 at e2 h2 ⊢
  walk_at "go"
  refine ⟨a, ns, 1, rfl, by decide, (e1.trans e2).seq hS, ?_⟩
  walk_at "go"
  have hb0 := Int.emod_nonneg (cell ns 1 / 6) (by decide : (2 : Int) ≠ 0)
  have hb1 := Int.emod_lt_of_pos (cell ns 1 / 6) (by decide : (0 : Int) < 2)
  obtain ⟨most, hmo, hm0, hm1⟩ : ∃ most : Int, atI [V.int 6, V.int (10 ^ Int.toNat 12)] (cell ns 1 / 6 % 2) = some (.int most) ∧ 0 < most ∧ most ≤ 10 ^ 12 := by
    rcases (by omega : cell ns 1 / 6 % 2 = 0 ∨ cell ns 1 / 6 % 2 = 1) with e | e <;> rw [e] <;> exact ⟨_, rfl, by decide, by decide⟩
  refine XS.x_ixL (SqL.of h2) hmo ?_
  walk_at "go"
  have n2 : H2 nl = some (.lst (nm.map V.str)) := e2 _ _ h1
  refine ⟨a, ns, 1, rfl, by decide, (e1.trans e2).seq hS, ?_⟩
  walk_at "go"
  refine ⟨nl, nm.map V.str, rfl, SqL.of n2, fun p3 hp3 => ?_⟩
  rw [cut_take3, ← List.map_take]
  obtain ⟨e3, h3⟩ := XS.newly (o := HO.lst _) hp3
  generalize hH3 : upd _ p3 _ = H3 at e3 h3 ⊢
  walk_at "go"
  have hNd3 : (nm.take 3).Nodup := hNd.sublist (List.take_sublist 3 nm)
  have hL3 : (nm.take 3).length = 3 := by rw [List.length_take]; omega
  have c0 := Int.emod_nonneg (cell ns 1) (by decide : (6 : Int) ≠ 0)
  have c1 := Int.emod_lt_of_pos (cell ns 1) (by decide : (0 : Int) < 6)
  have e13 := e1.trans (e2.trans e3)
  refine ⟨a, ns, 13, 1 + cell ns 1 % 6, 3, most, p3, nm.take 3, rfl, e13.seq hS, by decide, by decide, by omega, by omega, SqL.of h3, hNd3, by omega, by decide, by decide, hm0, fun t4 H4 e4 d4 => ?_⟩
  walk_at "go"
  -- what is drawn
  have sumOk : ∀ (c : Int) (k : Int) (nm' : List Str), k.natAbs ≤ 2 ^ 250 → nm' = nm.take 3 ∨ nm' = [] → InS (nm.take 3) (2 ^ 250) (k, (sumBy c nm' 3).2) := fun c k nm' hk h => by
    refine ⟨(sumBy_norm (by decide)), fun p hp => ?_, ⟨hk, fun p hp => ?_⟩, ?_, fun p hp => ?_⟩
    · have hm := sumBy_mem (by decide) hp
      rcases h with rfl | rfl
      · exact hm
      · cases hm
    · have := sumBy_by (by decide) hp
      exact Nat.le_trans this (by decide)
    · have := sumBy_len (c := c) (names := nm') (wd := 3) (by decide)
      have l3 : nm'.length ≤ 3 := by rcases h with rfl | rfl; omega; simp
      show (sumBy c nm' 3).2.length < 64
      omega
    · have := sumBy_by (by decide) hp
      exact Nat.lt_of_le_of_lt this (by decide)
  have n9 : ∀ c nm', (sumBy c nm' 3).1.natAbs ≤ 2 ^ 250 := fun c nm' => Nat.le_trans (sumBy_num c 3 nm') (by decide)
  have endOk : ∀ c nm', nm' = nm.take 3 ∨ nm' = [] → EndOk (nm.take 3) (2 ^ 250) (endBy c nm' 3 most) := fun c nm' h => by
    have hs := sumOk (c / 12) (sumBy (c / 12) nm' 3).1 nm' (n9 _ _) h
    refine ⟨(endBy_is c nm' 3 most).1, ?_, fun m s e => ?_⟩
    · unfold endBy
      split
      · exact hs
      · split <;> exact hs
    · unfold endBy at e
      split at e
      · cases e
      · split at e
        · cases e
          have h1 := Int.emod_nonneg (c / 4) (by omega : most ≠ 0)
          have h2 := Int.emod_lt_of_pos (c / 4) hm0
          refine ⟨by omega, ?_⟩
          have : (1 + c / 4 % most).natAbs ≤ 10 ^ 12 + 1 := by omega
          exact Nat.le_trans this (by decide)
        · cases e
  have G0 := plainBy_goodE (q := EndOk (nm.take 3) (2 ^ 250)) (nm := nm.take 3) (ns := ns) (first := 13) (count := 1 + cell ns 1 % 6) (wd := 3) (most := most) endOk (by omega)
  have L0 := plainBy_lv (nm := nm.take 3) (ns := ns) (first := 13) (count := 1 + cell ns 1 % 6) (wd := 3) (most := most) (by omega)
  generalize plainBy ns 13 (1 + cell ns 1 % 6) (nm.take 3) 3 most = S0 at d4 G0 L0
  have n4 : H4 nl = some (.lst (nm.map V.str)) := e4 _ _ (e3 _ _ n2)
  have hS4 := (e13.trans e4).seq hS
  clear endOk
  refine ⟨a, ns, 2, rfl, by decide, hS4, ?_⟩
  walk_at "go"
  refine XS.x_d (fun c => ?_) (fun c => ?_)
  · walk_at "go"
    refine ⟨a, ns, 3, rfl, by decide, hS4, ?_⟩
    walk_at "go"
    refine ⟨cell ns 3, _, nl, S0, nm, rfl, d4, SqL.of n4, hLen, fun t7 H7 e7 d7 => ?_⟩
    have ev0 : Ev (fun _ => True) S0 := G0.ed.ev (fun _ _ => trivial) fun m s h => (h.2.2 m s rfl).1
    obtain ⟨g1, g2, g3⟩ := boundBy_is (c := cell ns 3) (names := nm) ev0 G0.dp
    walk_at "go"
    refine ⟨_, _, rfl, d7, g2, by omega, fun H8 e8 => ?_⟩
    walk_at "go"
    rw [decide_eq_true rfl]
    exact q _
  clear c
  walk_at "go"
  refine (fun d hd => ?_)
  obtain ⟨e5, h5⟩ := XS.newly (o := HO.dK []) hd
  generalize hH5 : upd _ d _ = H5 at e5 h5 ⊢
  walk_at "go"
  refine XS.x_forR1 ⟨by decide, by decide⟩ (fun i σ H' => ∃ (y5 : Option V) (m : List Pr), σ = [some (.ref a), some (.ref nl), some (.int most), some (.ref t4), some (.ref d), y5, none, none, none, none, none] ∧
    Same H4 H' ∧ H' d = some (.dK (dOf m)) ∧ m.map (·.1) = nm.take i ∧ (∀ p ∈ m, p.2.natAbs ≤ 10 ^ 60)) ⟨none, [], rfl, e5, h5, by rw [List.take_zero]; rfl, (by intro p hp; cases hp)⟩ ?_ ?_
  · rintro i σ H' hi ⟨y6, m, rfl, e8, h8, m8, s8⟩
    obtain ⟨z, hz⟩ : ∃ z, nm[i]? = some z := ⟨_, List.getElem?_eq_getElem (by omega)⟩
    walk_at "go"
    refine ⟨a, ns, 4 + i, rfl, by omega, e8.seq hS4, ?_⟩
    walk_at "go"
    refine ⟨_, rfl, fun H9 e9 => ?_⟩
    walk_at "go"
    refine XS.x_ixL (SqL.of (e9 _ _ (e8 _ _ n4))) (XS.atI_get (i := i) (v := .str z) (by rw [List.getElem?_map, hz]; rfl)) ?_
    have h9 := e9 _ _ h8
    have hml : m.length = i := by
      have := congrArg List.length m8
      rw [List.length_map, List.length_take, hLen] at this
      omega
    have hzn : z ∉ m.map (·.1) := by
      rw [m8]
      intro hm
      obtain ⟨j, hj, ej⟩ := List.mem_take_iff_getElem.mp hm
      have hi2 : i < nm.length := by omega
      have ez : nm[i] = z := (List.getElem?_eq_some_iff.mp hz).2
      have := XS.nd_inj hNd (i := j) (j := i) (by omega) hi2 (by rw [ej, ez])
      omega
    refine ⟨d, _, rfl, DPut.k (k := Sum.inr z) h9 (szl (by rw [dOf_len]; omega)), ?_⟩
    rw [dOf_put, putP_new hzn]
    refine ⟨_, _, rfl, XS.same_mut (e8.trans e9) hd, upd_same, ?_, ?_⟩
    · rw [List.map_append, m8, XS.take_more hz]
      rfl
    · intro p hp
      rcases List.mem_append.mp hp with hp | hp
      · exact s8 p hp
      · simp at hp
        subst hp
        exact Nat.le_of_lt (bigBy_b _)
  rintro σ H6 ⟨y5, m, rfl, e6, h6, m6, s6⟩
  have m6 : m.map (·.1) = nm.take 3 := m6
  have s6' := sml_all s6
  clear e5 h5
  have n6 : H6 nl = some (.lst (nm.map V.str)) := e6 _ _ n4
  have hS6 := e6.seq hS4
  have d6 := Dp.same e6 _ _ d4
  walk_at "go"
  refine ⟨a, ns, 1, rfl, by decide, hS6, ?_⟩
  walk_at "go"
  have w0 := Int.emod_nonneg (cell ns 1 / 6) (by decide : (3 : Int) ≠ 0)
  have w1 := Int.emod_lt_of_pos (cell ns 1 / 6) (by decide : (0 : Int) < 3)
  refine XS.x_cut (fun σ H' => ∃ (y9 : Option V) (tS : Addr) (S : Stm), σ = [some (.ref a), some (.ref nl), some (.int most), some (.ref tS), some (.ref d), y5, some (.int (cell ns 1 / 6 % 3)), none, none, y9, none] ∧ Same H6 H' ∧ Dp K H' (.ref tS) (toD S) ∧ GoodE (EndOk (nm.take 3) (2 ^ 250)) 18 S ∧ lv S ≤ 130) ?_ ?_
  · walk_at "go"
    refine XS.x_d (fun hw => ?_) (fun hw => ?_)
    · walk_at "go"
      refine ⟨a, ns, 1, rfl, by decide, hS6, ?_⟩
      walk_at "go"
      refine ⟨nl, nm.map V.str, rfl, SqL.of n6, fun p7 hp7 => ?_⟩
      rw [cut_take3, ← List.map_take]
      obtain ⟨e7, h7⟩ := XS.newly (o := HO.lst _) hp7
      generalize hH7 : upd _ p7 _ = H7 at e7 h7 ⊢
      walk_at "go"
      refine ⟨cell ns 1 / 18, p7, d, nm.take 3, m, rfl, SqL.of h7, hNd3, by omega, e7 _ _ h6, s6', fun x hx => by rw [m6]; exact hx, fun t8 H8 e8 d8 => ?_⟩
      walk_at "go"
      have ge : GoodE (EndOk (nm.take 3) (2 ^ 250)) 2 (edgeBy (cell ns 1 / 18) (nm.take 3) m) := edgeBy_goodE (by
        have b1 : Bnd 9 3 (sumBy (cell ns 1 / 18 / 12) (nm.take 3) 3) := bnd_by (by decide)
        have nd : ((sumBy (cell ns 1 / 18 / 12) (nm.take 3) 3).2.map (·.1)).Nodup := (sumBy_norm (by decide)).rise.nodup
        have B := b1.val nd s6
        have lz := sumBy_len (c := cell ns 1 / 18 / 12) (names := nm.take 3) (wd := 3) (by decide)
        have b0 := b1.1
        have lz2 := Nat.mul_le_mul_right (3 * 10 ^ 60) (Nat.le_trans lz (by omega : (nm.take 3).length ≤ 8))
        have r0 := Int.emod_nonneg (cell ns 1 / 18) (by decide : (3 : Int) ≠ 0)
        have r1 := Int.emod_lt_of_pos (cell ns 1 / 18) (by decide : (0 : Int) < 3)
        have hk : (edgeOne (cell ns 1 / 18) (nm.take 3) m).1.natAbs ≤ 2 ^ 250 := by
          refine Nat.le_trans (m := 100 + 8 * (3 * 10 ^ 60)) ?_ (by decide)
          show ((sumBy (cell ns 1 / 18 / 12) (nm.take 3) 3).1 - valS (look m) (sumBy (cell ns 1 / 18 / 12) (nm.take 3) 3) + cell ns 1 / 18 % 3 - 1).natAbs ≤ _
          omega
        have hs := sumOk (cell ns 1 / 18 / 12) (edgeOne (cell ns 1 / 18) (nm.take 3) m).1 (nm.take 3) hk (.inl rfl)
        have hs' : InS (nm.take 3) (2 ^ 250) (edgeOne (cell ns 1 / 18) (nm.take 3) m) := hs
        clear hs hk B
        unfold edgeEnd
        have h1 := Int.emod_nonneg (cell ns 1 / 18 / 9) (by decide : (40 : Int) ≠ 0)
        have h2 := Int.emod_lt_of_pos (cell ns 1 / 18 / 9) (by decide : (0 : Int) < 40)
        split
        · exact ⟨rfl, hs', fun m s e => by cases e⟩
        split
        · exact ⟨rfl, hs', fun m s e => by cases e⟩
        · refine ⟨rfl, hs', fun m s e => ?_⟩
          cases e
          refine ⟨by omega, ?_⟩
          have : (1 + cell ns 1 / 18 / 9 % 40).natAbs ≤ 100 := by omega
          exact Nat.le_trans this (by decide))
      have le : lv (edgeBy (cell ns 1 / 18) (nm.take 3) m) ≤ 1 := by
        unfold edgeBy edgeEnd
        split
        · show lv (if _ then _ else _) ≤ 1
          split
          · exact Nat.le_refl _
          · split <;> exact Nat.le_refl _
        · split
          · exact Nat.le_refl _
          · split <;> exact Nat.le_refl _
      generalize edgeBy (cell ns 1 / 18) (nm.take 3) m = E1 at d8 ge le
      refine ⟨XS.sz (by simp), fun t9 ht9 => ?_⟩
      obtain ⟨e9, h9⟩ := XS.newly (o := HO.tup _) ht9
      generalize hGH9 : upd _ t9 _ = H9 at e9 h9 ⊢
      walk_at "go"
      refine ⟨XS.sz (by simp), fun t10 ht10 => ?_⟩
      obtain ⟨e10, h10⟩ := XS.newly (o := HO.tup _) ht10
      generalize hGH10 : upd _ t10 _ = H10 at e10 h10 ⊢
      walk_at "go"
      refine ⟨XS.sz (by simp), fun t11 ht11 => ?_⟩
      obtain ⟨e11, h11⟩ := XS.newly (o := HO.tup _) ht11
      generalize hGH11 : upd _ t11 _ = H11 at e11 h11 ⊢
      walk_at "go"
      refine ⟨XS.sz (by simp), fun l12 hl12 => ?_⟩
      obtain ⟨e12, h12⟩ := XS.newly (o := HO.lst _) hl12
      generalize hGH12 : upd _ l12 _ = H12 at e12 h12 ⊢
      walk_at "go"
      have eA := e9.trans (e10.trans (e11.trans e12))
      have dE := Dp.same eA _ _ d8
      have dS := Dp.same (e7.trans (e8.trans eA)) _ _ d6
      obtain ⟨tS, S, hS1, dS1, gS, lS⟩ : ∃ tS S, atI [V.ref t11, V.ref t8] (cell ns 1 / 6 % 3 - 1) = some (.ref tS) ∧ Dp K H12 (.ref tS) (toD S) ∧ GoodE (EndOk (nm.take 3) (2 ^ 250)) 18 S ∧ lv S ≤ 130 := by
        rcases (by omega : cell ns 1 / 6 % 3 = 1 ∨ cell ns 1 / 6 % 3 = 2) with e | e <;> rw [e]
        · have ein : Dp K H12 (.ref t10) (toD (.con false [E1, S0])) := XS.Dp.mkCon (o := false) (l := [E1, S0]) ((e11.trans e12).seqT (SqT.of h10)) rfl ((e10.trans (e11.trans e12)).seqT (SqT.of h9)) (.cons dE (.one dS))
          exact ⟨t11, .neg (.con false [E1, S0]), rfl, XS.Dp.mkNeg (e12.seqT (SqT.of h11)) ein, (GoodE.con2 (n := 16) (ge.mono (by omega)) G0).neg, by show lv E1 + (lv S0 + 0) ≤ 130; omega⟩
        · exact ⟨t8, E1, rfl, dE, ge.mono (by omega), by omega⟩
      refine XS.x_ixL (SqL.of h12) hS1 ?_
      walk_at "go"
      exact ⟨_, tS, S, rfl, e7.trans (e8.trans eA), dS1, gS, lS⟩
    · walk_at "go"
      exact ⟨_, t4, S0, rfl, Same.refl _, d6, G0.mono (by omega), by omega⟩
  clear G0 d4 d6 L0 sumOk
  rintro σ H7 ⟨y9, tS, S, rfl, e7, d7, gS, lS⟩
  have h7 := e7 _ _ h6
  have n7 := e7 _ _ n6
  have hS7 := e7.seq hS6
  -- its free names
  have alln : ∀ x ∈ allN S, x ∈ nm.take 3 := fun x hx => by
    have e : Ev (fun s => ∀ x ∈ s.2.map (·.1), x ∈ nm.take 3) S := gS.ed.ev (fun c hc x hx => by
      obtain ⟨p, hp, rfl⟩ := List.mem_map.mp hx
      exact hc.2.1.sub p hp) fun m s h => (h.2.2 m s rfl).1
    exact fr_in e ((allN_fr gS.ed x).mp hx)
  have fmem : ∀ x, x ∈ frN nm S ↔ XS.Fr x S := fun x => by
    unfold frN
    rw [List.mem_filter, decide_eq_true_eq, allN_fr gS.ed]
    exact ⟨fun h => h.2, fun h => ⟨List.mem_of_mem_take (alln x ((allN_fr gS.ed x).mpr h)), h⟩⟩
  have edF : Ed (EndOk (frN nm S) (2 ^ 250)) S := (gS.ed.free (M := frN nm S) fun x hx => (fmem x).mpr ((allN_fr gS.ed x).mp hx)).mono fun c ⟨⟨h1, h2, h3⟩, h4⟩ => ⟨h1, ⟨h2.no, fun p hp => h4 _ (List.mem_map_of_mem hp), h2.bd, h2.len, h2.sh⟩, h3⟩
  have lF : (frN nm S).length ≤ 32 := Nat.le_trans (List.length_filter_le _ _) (by omega)
  have plS := gS.ed.plain
  walk_at "go"
  refine ⟨frN nm S, lF, _, S, rfl, d7, by have := gS.dp; omega, fun _ => ⟨edF, by omega⟩, fun _ t8 B H8 e8 fB tB lB d8 => ?_, fun hp => by rw [plS] at hp; cases hp⟩
  walk_at "go"
  refine ⟨XS.sz (by simp), fun l9 hl9 => ?_⟩
  obtain ⟨e9, h9⟩ := XS.newly (o := HO.lst _) hl9
  generalize hGH9 : upd _ l9 _ = H9 at e9 h9 ⊢
  walk_at "go"
  have evF : Ev (fun s => (∀ x ∈ s.2.map (·.1), x ∈ nm) ∧ (s.2.map (·.1)).Nodup) S := gS.ed.ev (fun c hc => ⟨fun x hx => by
    obtain ⟨p, hp, rfl⟩ := List.mem_map.mp hx
    exact List.mem_of_mem_take (hc.2.1.sub p hp), hc.2.1.no.rise.nodup⟩) fun m s h => (h.2.2 m s rfl).1
  have d79 := Dp.same (e8.trans e9) _ _ d7
  refine ⟨_, l9, S, [], rfl, d79, h9, by simp; have := gS.dp; omega, evF, by have := gS.dp; omega, fun l10 H10 zs e10 hl10 h10 nd10 mem10 => ?_⟩
  have zmem : ∀ x, x ∈ zs ↔ x ∈ frN nm S := fun x => by rw [mem10, fmem]; simp
  walk_at "go"
  have d810 := Dp.same (e9.trans e10) _ _ d8
  have dpB := ft_dep (fun a h => satom_dep h) fB
  have evB : Evu (SumR (frN nm S) (2 ^ 250 + 2)) B := ft_evu (fun b h => satom_evu h) fB
  have plB : plainB B = true := ft_plain (fun b h => satom_plain h) fB
  have fsub : ∀ x ∈ frN nm S, x ∈ nm := fun x hx => (List.mem_filter.mp hx).1
  refine ⟨_, l10, B, zs, rfl, d810, SqL.of h10, evB.mono fun s h => ⟨h.1, fun p hp => ⟨(zmem _).mpr (h.2.1 p hp), (hW _ (fsub _ (h.2.1 p hp))).2⟩⟩, plB, by omega, ?_⟩
  walk_at "go"
  refine ⟨_, B, rfl, d810, ft_strt fB, by omega, ?_⟩
  walk_at "go"
  have e710 := e8.trans (e9.trans e10)
  have h10d := e710 _ _ h7
  have n10 := e710 _ _ n7
  have hS10 := e710.seq hS7
  have dS10 := Dp.same e710 _ _ d7
  have f3 : ∀ x ∈ frN nm S, x ∈ m.map (·.1) := fun x hx => by
    rw [m6]
    exact alln x ((allN_fr gS.ed x).mpr ((fmem x).mp hx))
  have mlen : m.length = 3 := by
    have := congrArg List.length m6
    rw [List.length_map] at this
    omega
  have sA : ∀ p ∈ m, p.2.natAbs ≤ 10 ^ 60 + 14 := fun p hp => Nat.le_trans (s6 p hp) (Nat.le_add_right _ _)
  have evB2 : ∀ mm : List Pr, mm.map (·.1) = m.map (·.1) → Evu (OkS mm) B := fun mm hmm => evB.mono fun s h => ⟨bs_sml h.2.2 (by decide), fun p hp => ⟨by rw [hmm]; exact f3 _ (h.2.1 p hp), (hW _ (fsub _ (h.2.1 p hp))).1⟩⟩
  have evS2 : ∀ mm : List Pr, mm.map (·.1) = m.map (·.1) → Evu (OkS mm) S := fun mm hmm => (edF.ev (p := SumR (frN nm S) (2 ^ 250)) (fun c hc => ⟨hc.2.1.no, hc.2.1.sub, hc.2.1.bd⟩) fun m s h => (h.2.2 m s rfl).1).u.mono fun s h => ⟨bs_sml h.2.2 (by decide), fun p hp => ⟨by rw [hmm]; exact f3 _ (h.2.1 p hp), (hW _ (fsub _ (h.2.1 p hp))).1⟩⟩
  have dpS := gS.dp
  clear evF evB edF alln fmem zmem mem10 nd10 h10 h9 hl9 hl10 gS h7 h6 n7 n6 hS7 hS6 d7 d8 d79
  refine XS.x_forR1 ⟨by decide, by decide⟩ (fun i σ H' => ∃ (z5 z8 z10 : Option V), σ = [some (.ref a), some (.ref nl), some (.int most), some (.ref tS), some (.ref d), z5, some (.int (cell ns 1 / 6 % 3)), some (.ref t8), z8, y9, z10] ∧ Same H10 H') ⟨y5, none, none, rfl, Same.refl _⟩ ?_ ?_
  · rintro i σ H' hi ⟨z5, z8, z10, rfl, eO⟩
    have hi3 : i < 3 := Int.ofNat_lt.mp hi
    walk_at "go"
    refine ⟨d, _, rfl, .inl (eO _ _ h10d), fun f hf => ?_⟩
    obtain ⟨e11, h11⟩ := XS.newly (o := HO.dK (dOf m)) hf
    generalize hH11 : upd _ f _ = H11 at e11 h11 ⊢
    refine ⟨XS.sz (by simp), fun l12 hl12 => ?_⟩
    obtain ⟨e12, h12⟩ := XS.newly (o := HO.lst _) hl12
    generalize hGH12 : upd _ l12 _ = H12 at e12 h12 ⊢
    walk_at "go"
    refine .inr ⟨_, rfl, ?_⟩
    obtain ⟨cn, hcn, c30, c33⟩ : ∃ cn : Int, atI [V.int 0, V.int 3] (if decide ((0 : Int) < (i : Int)) = true then 1 else 0) = some (.int cn) ∧ 0 ≤ cn ∧ cn ≤ 3 := by
      by_cases h0 : (0 : Int) < (i : Int)
      · rw [decide_eq_true h0]
        exact ⟨3, rfl, by decide, by decide⟩
      · rw [decide_eq_false h0]
        exact ⟨0, rfl, by decide, by decide⟩
    refine XS.x_ixL (SqL.of h12) hcn ?_
    walk_at "go"
    have e112 := eO.trans (e11.trans e12)
    have f10 : H10 f = none := by
      cases hq : H10 f with
      | none => rfl
      | some o =>
        rw [eO _ _ hq] at hf
        cases hf
    refine XS.x_forR1 ⟨by omega, by omega⟩ (fun k σ H2 => ∃ (z5 : Option V) (mm : List Pr), σ = [some (.ref a), some (.ref nl), some (.int most), some (.ref tS), some (.ref d), z5, some (.int (cell ns 1 / 6 % 3)), some (.ref t8), some (.int i), y9, some (.ref f)] ∧ Same H10 H2 ∧ H2 f = some (.dK (dOf mm)) ∧ mm.map (·.1) = m.map (·.1) ∧ (∀ p ∈ mm, p.2.natAbs ≤ 10 ^ 60 + 14)) ⟨z5, m, rfl, e112, e12 _ _ h11, rfl, sA⟩ ?_ ?_
    · rintro k σ H2 hk ⟨w5, mm, rfl, eI, hI, nI, sI⟩
      have hk3 : k < 3 := by omega
      walk_at "go"
      have smi : Sml (i : Int) := sml_of' (n := 3) (by omega) (by decide)
      refine XS.x_I (mul_ok (by unfold Sml; decide) smi) ?_
      walk_at "go"
      refine ⟨a, ns, 4 + 3 * i + k, rfl, by omega, eI.seq hS10, ?_⟩
      walk_at "go"
      refine XS.x_I (mul_ok (by unfold Sml; decide) smi) ?_
      walk_at "go"
      refine ⟨_, rfl, fun H9 e9 => ?_⟩
      walk_at "go"
      obtain ⟨z, hz⟩ : ∃ z, nm[k]? = some z := ⟨_, List.getElem?_eq_getElem (by omega)⟩
      refine XS.x_ixL (SqL.of (e9 _ _ (eI _ _ n10))) (XS.atI_get (i := k) (v := .str z) (by rw [List.getElem?_map, hz]; rfl)) ?_
      have h9 := e9 _ _ hI
      have mml : mm.length = 3 := by have := congrArg List.length nI; rw [List.length_map, List.length_map] at this; omega
      have zin : z ∈ mm.map (·.1) := by
        rw [nI, m6]
        refine List.mem_of_getElem? (i := k) ?_
        rw [List.getElem?_take, if_pos hk3]
        exact hz
      refine ⟨f, _, rfl, DPut.k (k := Sum.inr z) h9 (szl (by rw [dOf_len]; omega)), ?_⟩
      rw [dOf_put]
      refine ⟨_, _, rfl, XS.same_mut (eI.trans e9) f10, upd_same, by rw [putP_names, if_pos zin]; exact nI, putP_b sI ?_⟩
      · have := bigBy_b (cell ns (4 + 3 * i + k) + 7 * i)
        omega
    · rintro σ H2 ⟨w5, mm, rfl, eI, hI, nI, sI⟩
      have smm : ∀ q ∈ mm, Sml q.2 := fun q hq => sml_of' (n := 10 ^ 60 + 14) (sI q hq) (by decide)
      walk_at "go"
      refine ⟨_, f, B, mm, rfl, Dp.same eI _ _ d810, hI, smm, evB2 mm nI, plB, by omega, ?_⟩
      walk_at "go"
      refine ⟨_, f, S, mm, rfl, Dp.same eI _ _ dS10, hI, smm, evS2 mm nI, plS, by omega, ?_⟩
      rw [tB]
      refine XS.x_neB ?_
      walk_at "go"
      refine XS.x_no (by simp) ?_
      walk_at "go"
      exact ⟨w5, _, _, rfl, eI⟩
  · rintro σ H' ⟨z5, z8, z10, rfl, eO⟩
    walk_at "go"
    exact q _
end

theorem facts {l : PySem.W.OpenLaw} {w : World} {K : PySem.W.Frag} {h : Heap} {mg : Str → Option Value} {fa : Addr} (X : K.In h) (G : h.Ns mainGlobals mg) (hfa : mg "law" = some (.ref fa)) (c : He.SaysT faL fnL tsL w K) (ex : exB K = true)
    : ∃ fd : FuncData, (∀ (s : Shared) (v : Value), BindsTo s fd ⟨[v], []⟩ [("_law_script", v)]) ∧ ∀ base : Heap, K.In base → base.Ns mainGlobals mg → FnOk l.prog w K mg base CX0 67 fa fd ["_law_script"] (sp_law K) := by
  have Z : Bl mg := XH.bl_ok X G (XH.allB_at ex 0 rfl)
  have Z2 : Bl2 mg := XH.bl2_ok X G (XH.allB_at ex 1 rfl)
  have Y := XH.err_ok X G (XH.allB_at ex 2 rfl)
  have Cn := XH.con_ok X G (XH.allB_at ex 3 rfl)
  have Ct := XH.tf_ok X G (XH.allB_at ex 4 rfl) (c.tab 0)
  have G_gcd : mg "gcd" = some (.builtin "math.gcd") := XH.blt_ok X G (XH.allB_at ex 5 rfl)
  have G_lcm : mg "lcm" = some (.builtin "math.lcm") := XH.blt_ok X G (XH.allB_at ex 6 rfl)
  have I_MOST_WITHIN := He.int_ok X G (x := "MOST_WITHIN") (i := 40) (XH.allB_at ex 7 rfl)
  have I_PIECE := He.int_ok X G (x := "PIECE") (i := 60) (XH.allB_at ex 8 rfl)
  have I_PIECE_END := He.int_ok X G (x := "PIECE_END") (i := (10 ^ 60)) (XH.allB_at ex 9 rfl)
  have I_FEWEST := He.int_ok X G (x := "FEWEST") (i := 4) (XH.allB_at ex 10 rfl)
  have I_FEW := He.int_ok X G (x := "FEW") (i := 10) (XH.allB_at ex 11 rfl)
  have F_inverse : FunAt K mg "inverse" s_inverse P_inverse := XH.f_at X G c 0 rfl (c.d.fact 0 rfl) (fun _ _ _ _ _ _ us hl => match us, hl with | [_, _], _ => rfl)
  have F_made : FunAt K mg "made" s_made P_made := XH.f_at X G c 1 rfl (c.d.fact 1 rfl) (fun _ _ _ _ _ _ us hl => match us, hl with | [_, _], _ => rfl)
  have F_added : FunAt K mg "added" s_added P_added := XH.f_at X G c 2 rfl (c.d.fact 2 rfl) (fun _ _ _ _ _ _ us hl => match us, hl with | [_, _], _ => rfl)
  have F_times : FunAt K mg "times" s_times P_times := XH.f_at X G c 3 rfl (c.d.fact 3 rfl) (fun _ _ _ _ _ _ us hl => match us, hl with | [_, _], _ => rfl)
  have F_above : FunAt K mg "above" s_above P_above := XH.f_at X G c 4 rfl (c.d.fact 4 rfl) (fun _ _ _ _ _ _ us hl => match us, hl with | [_], _ => rfl)
  have F_nought : FunAt K mg "nought" s_nought P_nought := XH.f_at X G c 5 rfl (c.d.fact 5 rfl) (fun _ _ _ _ _ _ us hl => match us, hl with | [_], _ => rfl)
  have F_goes : FunAt K mg "goes" s_goes P_goes := XH.f_at X G c 6 rfl (c.d.fact 6 rfl) (fun _ _ _ _ _ _ us hl => match us, hl with | [_, _], _ => rfl)
  have F_simple : FunAt K mg "simple" s_simple P_simple := XH.f_at X G c 7 rfl (c.d.fact 7 rfl) (fun _ _ _ _ _ _ us hl => match us, hl with | [_], _ => rfl)
  have F_contrary : FunAt K mg "contrary" s_contrary P_contrary := XH.f_at X G c 8 rfl (c.d.fact 8 rfl) (fun _ _ _ _ _ _ us hl => match us, hl with | [_], _ => rfl)
  have F_about : FunAt K mg "about" s_about P_about := XH.f_at X G c 9 rfl (c.d.fact 9 rfl) (fun _ _ _ _ _ _ us hl => match us, hl with | [_], _ => rfl)
  have F_sum_of : FunAt K mg "sum_of" s_sum_of P_sum_of := XH.f_at X G c 10 rfl (c.d.fact 10 rfl) (fun _ _ _ _ _ _ us hl => match us, hl with | [_], _ => rfl)
  have F_turned : FunAt K mg "turned" s_turned P_turned := XH.f_at X G c 11 rfl (c.d.fact 11 rfl) (fun _ _ _ _ _ _ us hl => match us, hl with | [_], _ => rfl)
  have F_common_share : FunAt K mg "common_share" s_common_share P_common_share := XH.f_at X G c 12 rfl (c.d.fact 12 rfl) (fun _ _ _ _ _ _ us hl => match us, hl with | [_, _], _ => rfl)
  have F__factor : FunAt K mg "_factor" s__factor P__factor := XH.f_at X G c 13 rfl (c.d.fact 13 rfl) (fun _ _ _ _ _ _ us hl => match us, hl with | [_, _], _ => rfl)
  have F_decides : FunAt K mg "decides" s_decides P_decides := XH.f_at X G c 14 rfl (c.d.fact 14 rfl) (fun _ _ _ _ _ _ us hl => match us, hl with | [_, _], _ => rfl)
  have F_joined : FunAt K mg "joined" s_joined P_joined := XH.f_at X G c 15 rfl (c.d.fact 15 rfl) (fun _ _ _ _ _ _ us hl => match us, hl with | [_, _], _ => rfl)
  have F_opposite : FunAt K mg "opposite" s_opposite P_opposite := XH.f_at X G c 16 rfl (c.d.fact 16 rfl) (fun _ _ _ _ _ _ us hl => match us, hl with | [_], _ => rfl)
  have F_changed : FunAt K mg "changed" s_changed P_changed := XH.f_at X G c 17 rfl (c.d.fact 17 rfl) (fun _ _ _ _ _ _ us hl => match us, hl with | [_, _], _ => rfl)
  have F_is_plain : FunAt K mg "is_plain" s_is_plain P_is_plain := XH.f_at X G c 18 rfl (c.d.fact 18 rfl) (fun _ _ _ _ _ _ us hl => match us, hl with | [_], _ => rfl)
  have F_refuse_unless_plain : FunAt K mg "refuse_unless_plain" s_refuse_unless_plain P_refuse_unless_plain := XH.f_at X G c 19 rfl (c.d.fact 19 rfl) (fun _ _ _ _ _ _ us hl => match us, hl with | [_], _ => rfl)
  have F_parts_within : FunAt K mg "parts_within" s_parts_within P_parts_within := XH.f_at X G c 20 rfl (c.d.fact 20 rfl) (fun _ _ _ _ _ _ us hl => match us, hl with | [_], _ => rfl)
  have F_slimmed : FunAt K mg "slimmed" s_slimmed P_slimmed := XH.f_at X G c 21 rfl (c.d.fact 21 rfl) (fun _ _ _ _ _ _ us hl => match us, hl with | [_], _ => rfl)
  have F_some_number : FunAt K mg "some_number" s_some_number P_some_number := XH.f_at X G c 22 rfl (c.d.fact 22 rfl) (fun _ _ _ _ _ _ us hl => match us, hl with | [_, _], _ => rfl)
  have F_depth : FunAt K mg "depth" s_depth P_depth := XH.f_at X G c 23 rfl (c.d.fact 23 rfl) (fun _ _ _ _ _ _ us hl => match us, hl with | [_], _ => rfl)
  have F_shallow : FunAt K mg "shallow" s_shallow P_shallow := XH.f_at X G c 24 rfl (c.d.fact 24 rfl) (fun _ _ _ _ _ _ us hl => match us, hl with | [_, _], _ => rfl)
  have F_fitting_depths : FunAs K mg "fitting_depths" "_fitting" s_fitting_depths P_fitting_depths := XH.fs_at X G c 25 rfl (c.d.fact 25 rfl) (fun _ _ _ _ _ _ us hl => match us, hl with | [_, _, _], _ => rfl)
  have F_straight : FunAt K mg "straight" s_straight P_straight := XH.f_at X G c 26 rfl (c.d.fact 26 rfl) (fun _ _ _ _ _ _ us hl => match us, hl with | [_], _ => rfl)
  have F_fitting_taking : FunAs K mg "fitting_taking" "_fitting" s_fitting_taking P_fitting_taking := XH.fs_at X G c 27 rfl (c.d.fact 27 rfl) (fun _ _ _ _ _ _ us hl => match us, hl with | [_, _], _ => rfl)
  have F__formed : FunAt K mg "_formed" s__formed P__formed := XH.f_at X G c 28 rfl (c.d.fact 28 rfl) (fun _ _ _ _ _ _ us hl => match us, hl with | [_, _], _ => rfl)
  have F__without_nought : FunAt K mg "_without_nought" s__without_nought P__without_nought := XH.f_at X G c 29 rfl (c.d.fact 29 rfl) (fun _ _ _ _ _ _ us hl => match us, hl with | [_], _ => rfl)
  have F__law_cell_at : FunAt K mg "_law_cell_at" s__law_cell_at P__law_cell_at := XH.f_at X G c 30 rfl (c.d.fact 30 rfl) (fun _ _ _ _ _ _ us hl => match us, hl with | [_, _], _ => rfl)
  have F__law_whole : FunAt K mg "_law_whole" s__law_whole P__law_whole := XH.f_at X G c 31 rfl (c.d.fact 31 rfl) (fun _ _ _ _ _ _ us hl => match us, hl with | [_], _ => rfl)
  have F__law_names_by : FunAt K mg "_law_names_by" s__law_names_by P__law_names_by := XH.f_at X G c 32 rfl (c.d.fact 32 rfl) (fun _ _ _ _ _ _ us hl => match us, hl with | [_], _ => rfl)
  have F__law_sum_by : FunAt K mg "_law_sum_by" s__law_sum_by P__law_sum_by := XH.f_at X G c 33 rfl (c.d.fact 33 rfl) (fun _ _ _ _ _ _ us hl => match us, hl with | [_, _, _], _ => rfl)
  have F__law_end_by : FunAt K mg "_law_end_by" s__law_end_by P__law_end_by := XH.f_at X G c 34 rfl (c.d.fact 34 rfl) (fun _ _ _ _ _ _ us hl => match us, hl with | [_, _, _, _], _ => rfl)
  have F__law_plain_by : FunAt K mg "_law_plain_by" s__law_plain_by P__law_plain_by := XH.f_at X G c 35 rfl (c.d.fact 35 rfl) (fun _ _ _ _ _ _ us hl => match us, hl with | [_, _, _, _, _, _], _ => rfl)
  have F__law_value : FunAt K mg "_law_value" s__law_value P__law_value := XH.f_at X G c 36 rfl (c.d.fact 36 rfl) (fun _ _ _ _ _ _ us hl => match us, hl with | [_, _], _ => rfl)
  have F__law_true : FunAt K mg "_law_true" s__law_true P__law_true := XH.f_at X G c 37 rfl (c.d.fact 37 rfl) (fun _ _ _ _ _ _ us hl => match us, hl with | [_, _], _ => rfl)
  have F__law_free : FunAt K mg "_law_free" s__law_free P__law_free := XH.f_at X G c 38 rfl (c.d.fact 38 rfl) (fun _ _ _ _ _ _ us hl => match us, hl with | [_, _], _ => rfl)
  have F__law_sum_is : FunAt K mg "_law_sum_is" s__law_sum_is P__law_sum_is := XH.f_at X G c 39 rfl (c.d.fact 39 rfl) (fun _ _ _ _ _ _ us hl => match us, hl with | [_, _], _ => rfl)
  have F__law_plain_is : FunAt K mg "_law_plain_is" s__law_plain_is P__law_plain_is := XH.f_at X G c 40 rfl (c.d.fact 40 rfl) (fun _ _ _ _ _ _ us hl => match us, hl with | [_, _], _ => rfl)
  have F__law_word_of : FunAt K mg "_law_word_of" s__law_word_of P__law_word_of := XH.f_at X G c 41 rfl (c.d.fact 41 rfl) (fun _ _ _ _ _ _ us hl => match us, hl with | [_], _ => rfl)
  have F__law_big_by : FunAt K mg "_law_big_by" s__law_big_by P__law_big_by := XH.f_at X G c 42 rfl (c.d.fact 42 rfl) (fun _ _ _ _ _ _ us hl => match us, hl with | [_], _ => rfl)
  have F__law_bound_by : FunAt K mg "_law_bound_by" s__law_bound_by P__law_bound_by := XH.f_at X G c 43 rfl (c.d.fact 43 rfl) (fun _ _ _ _ _ _ us hl => match us, hl with | [_, _, _], _ => rfl)
  have F__law_edge_by : FunAt K mg "_law_edge_by" s__law_edge_by P__law_edge_by := XH.f_at X G c 44 rfl (c.d.fact 44 rfl) (fun _ _ _ _ _ _ us hl => match us, hl with | [_, _, _], _ => rfl)
  have F__law_straight_is : FunAt K mg "_law_straight_is" s__law_straight_is P__law_straight_is := XH.f_at X G c 45 rfl (c.d.fact 45 rfl) (fun _ _ _ _ _ _ us hl => match us, hl with | [_], _ => rfl)
  have F__law_refused : FunAt K mg "_law_refused" s__law_refused P__law_refused := XH.f_at X G c 46 rfl (c.d.fact 46 rfl) (fun _ _ _ _ _ _ us hl => match us, hl with | [_], _ => rfl)
  obtain ⟨fd, F_law, hb⟩ := XH.law_at (st := s_law) (p := "_law_script") X G c 47 rfl (c.d.fact 47 rfl) hfa (fun _ _ _ _ _ _ us hl => match us, hl with | [_], _ => rfl)
  refine ⟨fd, hb, fun base _ _ => ?_⟩
  obtain ⟨N, hNe⟩ : ∃ N : Nat, N = 2 ^ 250 := ⟨_, rfl⟩
  have l0 : N.log2 < 4000 := by rw [hNe]; decide
  have l1 : (N + 1).log2 < 4000 := by rw [hNe]; decide
  have l2 : (N + 1 + 1).log2 < 4000 := by rw [hNe]; decide
  have n1 : 1 ≤ N + 1 := by omega
  have Cc : Ci mg := ⟨I_MOST_WITHIN⟩
  have D_parts_within := d_parts_within (P := l.prog) (w := w) (base := base) Cn F_parts_within Z
  have D_is_plain := plain_all (P := l.prog) (w := w) (base := base) Cn F_is_plain Z D_parts_within 60
  have D_refuse := d_refuse_unless_plain (P := l.prog) (w := w) (base := base) Y F_refuse_unless_plain Z D_is_plain
  have D_inverse := d_inverse (P := l.prog) (w := w) (base := base) F_inverse Z
  have D_share := d_common_share (P := l.prog) (w := w) (base := base) F_common_share Z G_gcd
  have D_factor := d__factor F__factor Z G_gcd D_inverse
  have D_turned := d_turned (P := l.prog) (w := w) (base := base) F_turned Z
  have D_decides := d_decides (P := l.prog) (w := w) (base := base) Ct F_decides Z
  have D_joined := d_joined F_joined Z D_decides
  have D_about := d_about (P := l.prog) (w := w) (base := base) F_about Z
  have D_sum_of := d_sum_of (P := l.prog) (w := w) (base := base) F_sum_of Z
  have D_made := d_made (P := l.prog) (w := w) (base := base) F_made Z
  have D_mk : DefAt l.prog w K mg base CX0 1 "made" P_made (sp_mk K) := D_made.imp mk_imp
  have D_added := d_added F_added Z D_mk
  have D_times := d_times F_times Z D_mk
  have D_depth := depth_all F_depth Z Z2 D_parts_within 60
  have D_no1 : DefAt l.prog w K mg base CX0 1 "fitting_depths" P_fitting_depths sp_no := F_fitting_depths.never fun _ _ _ _ h => h
  have D_no2 : DefAt l.prog w K mg base CX0 1 "some_number" P_some_number sp_no := F_some_number.never fun _ _ _ _ h => h
  have D_no3 : DefAt l.prog w K mg base CX0 1 "slimmed" P_slimmed sp_no := F_slimmed.never fun _ _ _ _ h => h
  have D_shallow := d_shallow F_shallow Z D_depth D_no1 D_joined
  have D_fit := d_fitting_taking Cc F_fitting_taking Z Z2 D_depth D_shallow
  have D_formed' : ∀ nm : List Str, nm.length ≤ 32 → DefAt l.prog w K mg base CX0 41 "_formed" P__formed (sp_formed nm N 36 K) := fun nm h32 => by
    have D_nought := d_nought (nm := nm) l0 Ct F_nought Z D_share
    have D_above := (d_above (nm := nm) l0 Ct F_above Z D_share).imp (form1_imp fun _ h => h.atom)
    exact formed_all h32 Cn Ct F__formed Z (d_simple F_simple Z D_above D_nought (d_goes l0 Ct F_goes Z Z2 D_share D_nought D_factor)) (opp_all Ct F_opposite Z (d_contrary h32 F_contrary Z D_turned) 0) D_joined D_no2 D_no3 36
  have D_w : ∀ nm : List Str, nm.length ≤ 32 → DefAt l.prog w K mg base CX0 3 "_without_nought" P__without_nought (sp_change (Atom nm (N + 1)) (Satom nm (N + 2)) K) := fun nm h32 =>
    d__without_nought (nm := nm) h32 l2 n1 Ct F__without_nought Z D_about D_sum_of D_times D_added (d_above l2 Ct F_above Z D_share) D_joined
  obtain ⟨fW, fdW, okW, gW, kW, bW⟩ := D_w [] (by decide)
  have D_changed' : ∀ nm : List Str, nm.length ≤ 32 → DefAt l.prog w K mg base CX0 41 "changed" P_changed (sp_changed (Atom nm (N + 1)) (Satom nm (N + 2)) fW 36 K) := fun nm h32 => by
    obtain ⟨f2, fd2, ok2, g2, k2, b2⟩ := D_w nm h32
    have e := g2.symm.trans gW
    cases e
    exact chg_all (fun a h => ⟨atom_con h, atom_lv h⟩) (fun a h => satom_lv h) Ct F_changed Z D_decides D_joined ok2 (by decide) k2 b2 36
  have D_straight := d_straight Y F_straight Z D_refuse D_fit gW D_changed' D_formed'
  subst hNe
  have D_word_of := d__law_word_of (P := l.prog) (w := w) (base := base) Y F__law_word_of Z
  have D_sum_by := d__law_sum_by (P := l.prog) (w := w) (base := base) F__law_sum_by Z
  have D_lvalue := d__law_value (P := l.prog) (w := w) (base := base) F__law_value Z
  have D_cell := d__law_cell_at (P := l.prog) (w := w) (base := base) F__law_cell_at Z
  have D_whole := d__law_whole (P := l.prog) (w := w) (base := base) F__law_whole Z
  exact d_law Y F_law Z D_cell (d__law_names_by F__law_names_by Z) (d__law_big_by F__law_big_by Z) (d__law_plain_by F__law_plain_by Z D_cell (d__law_end_by F__law_end_by Z D_sum_by)) (d__law_edge_by F__law_edge_by Z D_sum_by D_lvalue) (d__law_bound_by F__law_bound_by Z) D_straight
    (d__law_refused6 Y F__law_refused Z D_straight D_word_of) (fun nm h32 => lfree_all h32 F__law_free Z 60) (ltrueU_all F__law_true Z D_lvalue 60) (plainis_all F__law_plain_is Z D_whole (d__law_sum_is F__law_sum_is Z D_whole) 60) (strtis_all F__law_straight_is Z 60)
end R1
open PySem PySem.W PySem.Calls PyProof.Rows
set_option maxRecDepth 100000 in
set_option maxHeartbeats 0 in
theorem PySem.Challenge.cw_somenumber_k06_straightened_holds : PySem.Challenge.rw_somenumber_k06_straightened.Holds := by
  w_on; o_law
  refine HandSHeadRun.head_imp (r := (OpenLaw.row PySem.Challenge.rw_somenumber_k06_straightened)) (q := view (OpenLaw.row PySem.Challenge.rw_somenumber_k06_straightened).prog [0, 132]) (H := R1.hk) (ob := R1.ob) (M := 6000) (loose := R1.loL) (d := HandSHeadRun.topDef (OpenLaw.row PySem.Challenge.rw_somenumber_k06_straightened).prog 132) (kwd := []) R1.ob_eq R1.runF
    (by kernel_rfl) (by kernel_rfl) (by kernel_rfl) (by rfl) (by first | assumption | decide +kernel) (by decide +kernel) ⟨rfl, rfl, rfl, rfl, rfl, by decide +kernel⟩ ?hw ?hc
  case hw => w_witness2
  case hc =>
    refine L2.walk_ofE (l := PySem.Challenge.rw_somenumber_k06_straightened) (n := 63) (k := 67) (x := "_law_script") (CX := L2.CX0) rfl (by decide) (by kernel_rfl) ⟨rfl, by decide, by decide⟩ ?F (fun _ _ _ _ z => z)
    intro w mg fa h Y G hmg0
    obtain ⟨K, KX, c, ex⟩ := Y
    have hmg : mg ("law" : PySem.Str) = some (.ref fa) := by
      have e : (HandSHeadRun.topDef (OpenLaw.row PySem.Challenge.rw_somenumber_k06_straightened).prog 132).name = ("law" : PySem.Str) := by kernel_rfl
      rw [← e]
      exact hmg0
    obtain ⟨fd, hb, hF⟩ := R1.facts (l := PySem.Challenge.rw_somenumber_k06_straightened) (w := w) KX G hmg c ex
    exact ⟨K, fd, XS.sp_law K, KX, hb, fun H a ns hl _ hS => ⟨a, ns, rfl, hS, hl, fun _ => rfl⟩, hF⟩
#print axioms PySem.Challenge.cw_somenumber_k06_straightened_holds

